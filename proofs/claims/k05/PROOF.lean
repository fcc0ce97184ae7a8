import PyProof.Rows.All
import Wide.All
import OpenK.AllK
import Wide.FinOn
import KE.DatumOrd
import KE.KEqSeq
import HandS.Base
import HandS.Call
import HandS.List
import HandS.Comp
import HandS.Iter
import HandS.Ends
import HandS.Words
import HandS.SortKw
import HandS.SortInts
import HandS.IsInst
import HandS.Style
import HandS.Evl
import HandS.Star
import HandS.SetFor
import HandS.Exc
import HandS.ExcOwn
import HandS.ExcValue
import HandS.ExcIs
import HandS.TryOnly
import HandS.WordsExc
import PyProof.Rows.CountFlat
import PyProof.CallType
import KE.GoesEnumKw
import PyProof.ZipIter
import PyProof.RulesTry
import PySem.Challenge.RW_stairparts_k05_whole_ways_down
set_option Elab.async false
set_option linter.all false
set_option maxRecDepth 100000
set_option maxHeartbeats 2000000
namespace XP
open PySem PySem.Spec PyProof.Rows L2
/-! ### max(xs, default=d) over a list of whole numbers -/
theorem fold_max (x : Int) : ∀ xs : List Int, (xs.foldl (fun a y => if decide (a < y) = true then y else a) x ∈ x :: xs) ∧ ∀ y ∈ x :: xs, y ≤ xs.foldl (fun a y => if decide (a < y) = true then y else a) x := by
  intro xs
  induction xs generalizing x with
  | nil => exact ⟨List.mem_cons_self, fun y hy => by simp at hy; simp [hy]⟩
  | cons z r ih =>
    rw [List.foldl_cons]
    by_cases c : x < z
    · rw [if_pos (decide_eq_true c)]
      obtain ⟨h1, h2⟩ := ih z
      refine ⟨List.mem_cons_of_mem _ h1, fun y hy => ?_⟩
      rcases List.mem_cons.mp hy with e | hy
      · have := h2 z List.mem_cons_self
        omega
      · exact h2 y hy
    · rw [if_neg (by simpa using c)]
      obtain ⟨h1, h2⟩ := ih x
      refine ⟨?_, fun y hy => ?_⟩
      · rcases List.mem_cons.mp h1 with e | h
        · rw [e]; exact List.mem_cons_self
        · exact List.mem_cons_of_mem _ (List.mem_cons_of_mem _ h)
      · rcases List.mem_cons.mp hy with e | hy
        · rw [e]; exact h2 x List.mem_cons_self
        · rcases List.mem_cons.mp hy with e | hy
          · have := h2 x List.mem_cons_self
            omega
          · exact h2 y (List.mem_cons_of_mem _ hy)
theorem readsAll_ints (h : Heap) : ∀ {vs : List Value} {ns : List Int}, IntsAre vs ns → ReadsAll h vs (ns.map (PySem.W.Datum.toD (α := Int))) []
  | _, _, .nil => .nil
  | _, _, .cons n t r => by
    rw [List.map_cons]
    exact ReadsAll.cons (as := []) (bs := []) (.int n t) (readsAll_ints h r)
def rMaxD (K : PySem.W.Frag) : List V → List V → Hp → VK → Prop := fun vs zs H Q => ∃ (a : Addr) (ns : List Int) (d : Int), vs = [V.ref a] ∧ zs = [.int d] ∧ SqL K H a (ns.map V.int) ∧
  (ns = [] → Q (.int d) H) ∧ ∀ m, m ∈ ns → (∀ y, y ∈ ns → y ≤ m) → Q (.int m) H
theorem cr_maxD {X : Cx} (hc : X.calm = true) (hu : X.A.units + 2 < cLine) : CallRK X (.builtin "max") [Str.ofString "default"] (rMaxD X.K) := by
  intro pins s σ H vs zs us ws Q I r rz h
  obtain ⟨a, ns, d, rfl, rfl, hs, q0, q⟩ := h
  obtain ⟨its, rv, hl, _⟩ := I.list hs
  rw [Vals.ref1 r]
  obtain ⟨w1, rfl, t1, rfl⟩ := vals1 rz
  refine PySem.W.max_list_datum_default (α := Int) (I.ok.hd hc) hl.isList ⟨[], readsAll_ints _ rv.ints⟩ (by show X.A.units + 1 + 0 < cLine; omega) (fun e h' tk hk => ⟨.int d, H, I.kept hk, ⟨_, rfl⟩, q0 e⟩) fun y ys i v h' tk e hi hd hk => ?_
  obtain ⟨as, hr⟩ := hd
  obtain ⟨g1, g2⟩ := fold_max y ys
  have hr' : Reads h' v (.int (ys.foldl (fun a y => if decide (a < y) = true then y else a) y)) as := hr
  cases hr' with
  | int _ t => exact ⟨.int _, H, I.kept hk, ⟨_, rfl⟩, q _ (by rw [e]; exact g1) (by rw [e]; exact g2)⟩
end XP
/-! ## Short words over the hand layer: what evaluates to what -/
open PySem in
theorem L2.Room.two {k : Nat} {A : PySem.Around} (r : L2.Room k A) : A.units + 2 < cLine := by
  have := r.un
  omega
namespace XP
open PySem PySem.Spec PyProof.Rows L2
/-! ### the rules that name the written part K, by a K of one's own (within comprehensions) -/
section
variable {X : Cx} {K : PySem.W.Frag}
theorem isiK (h : X.K = K) : CallR X (.builtin "isinstance") (rIsi K) := h ▸ call_isi
def rLenK (K : PySem.W.Frag) : List V → Hp → VK → Prop := fun xs H Q => ∃ p ys, xs = [.ref p] ∧ (SqL K H p ys ∨ SqT K H p ys) ∧ Q (.int ys.length) H
theorem lenK (h : X.K = K) : CallR X (.builtin "len") (rLenK K) := h ▸ call_len_seq
theorem sumK (h : X.K = K) (hc : X.calm = true) : CallR X (.builtin "sum") (rSum K) := h ▸ cr_sum hc
theorem maxK (h : X.K = K) (hc : X.calm = true) : CallR X (.builtin "max") (rMax K) := h ▸ cr_max hc
theorem minK (h : X.K = K) (hc : X.calm = true) : CallR X (.builtin "min") (rMin K) := h ▸ cr_min hc
theorem allK (h : X.K = K) (hc : X.calm = true) : CallR X (.builtin "all") (rAll K) := h ▸ cr_all hc
theorem anyK (h : X.K = K) (hc : X.calm = true) : CallR X (.builtin "any") (rAny K) := h ▸ cr_any hc
theorem sortedK (h : X.K = K) : CallR X (.builtin "sorted") (rSortedI K) := h ▸ cr_sortedI
def rListK (K : PySem.W.Frag) : List V → Hp → VK → Prop := fun xs H Q => ∃ p ys, xs = [.ref p] ∧ (SqL K H p ys ∨ SqT K H p ys) ∧ ∀ l, H l = none → Q (.ref l) (upd H l (.lst ys))
theorem listK (h : X.K = K) : CallR X (.type "list") (rListK K) := h ▸ call_list_of
theorem ixlK (h : X.K = K) : IxR X (rIxL K) := h ▸ ix_list
theorem ixtK (h : X.K = K) : IxR X (rIxT K) := h ▸ ix_tup
theorem eqK (h : X.K = K) (hu : X.A.units + 64 < cLine) : OpR X (compareOp .Eq) (rEqD K) := h ▸ op_eqD hu
theorem neK (h : X.K = K) (hu : X.A.units + 64 < cLine) : OpR X (compareOp .NotEq) (rNeD K) := h ▸ op_neD hu
theorem inK (h : X.K = K) : OpR X (compareOp .In) (rIn K false) := h ▸ op_in_seq
theorem notInK (h : X.K = K) : OpR X (compareOp .NotIn) (rIn K true) := h ▸ op_notIn_seq
theorem sllK (h : X.K = K) : SlR X (rSlL K) := h ▸ sl_list
theorem maxDK (h : X.K = K) (hc : X.calm = true) (hu : X.A.units + 2 < cLine) : CallRK X (.builtin "max") [Str.ofString "default"] (rMaxD K) := h ▸ cr_maxD hc hu
end
end XP
namespace XP
open PySem PySem.Spec PyProof.Rows L2 Evl
/-- a list of whole numbers stands at a -/
abbrev Ll (H : Hp) (a : Addr) (ns : List Int) : Prop := H a = some (.lst (ns.map V.int))
theorem Ll.sq {K : PySem.W.Frag} {H : Hp} {a : Addr} {ns : List Int} (h : Ll H a ns) : SqL K H a (ns.map V.int) := .inl (.inl h)
theorem map_int_inj : ∀ {xs ys : List Int}, xs.map V.int = ys.map V.int → xs = ys
  | [], [], _ => rfl
  | [], _ :: _, h => by simp at h
  | _ :: _, [], h => by simp at h
  | x :: xs, y :: ys, h => by
    rw [List.map_cons, List.map_cons] at h
    injection h with h1 h2
    injection h1 with h1
    rw [h1, map_int_inj h2]
theorem get_int {ns : List Int} {i : Nat} {v : V} (h : (ns.map V.int)[i]? = some v) : ∃ z, ns[i]? = some z ∧ v = .int z := by
  rw [List.getElem?_map] at h
  cases e : ns[i]? with
  | none => rw [e] at h; cases h
  | some z => rw [e] at h; cases h; exact ⟨z, rfl, rfl⟩
theorem take_one {α : Type} {l : List α} {i : Nat} {x : α} (h : l[i]? = some x) : l.take (i + 1) = l.take i ++ [x] := by
  rw [List.take_add_one, h]
  rfl
theorem drop_one {α : Type} {l : List α} {i : Nat} {x : α} (h : l[i]? = some x) : l.drop i = x :: l.drop (i + 1) := by
  obtain ⟨hi, e⟩ := List.getElem?_eq_some_iff.mp h
  rw [List.drop_eq_getElem_cons hi, e]
theorem lt_of_get {α : Type} {l : List α} {i : Nat} {x : α} (h : l[i]? = some x) : i < l.length := (List.getElem?_eq_some_iff.mp h).1
/-! data -/
theorem dpall_ints {K : PySem.W.Frag} {H : Hp} : ∀ ns : List Int, DpAll K H (ns.map V.int) (ns.map PyData.int)
  | [] => .nil
  | n :: r => .cons (.int n) (dpall_ints r)
theorem dp_ints {K : PySem.W.Frag} {H : Hp} {a : Addr} {ns : List Int} (h : SqL K H a (ns.map V.int)) : Dp K H (.ref a) (.list (ns.map PyData.int)) := .lst h (dpall_ints ns)
theorem eqvAll_ints : ∀ xs ys : List Int, PyData.eqvAll (xs.map PyData.int) (ys.map PyData.int) = decide (xs = ys)
  | [], [] => by simp [PyData.eqvAll]
  | [], _ :: _ => by simp [PyData.eqvAll]
  | _ :: _, [] => by simp [PyData.eqvAll]
  | x :: xs, y :: ys => by
    show (PyData.eqv (.int x) (.int y) && PyData.eqvAll (xs.map PyData.int) (ys.map PyData.int)) = _
    rw [eqvAll_ints xs ys]
    rw [Bool.eq_iff_iff]
    simp [PyData.eqv]
theorem eqv_ints (xs ys : List Int) : PyData.eqv (.list (xs.map PyData.int)) (.list (ys.map PyData.int)) = decide (xs = ys) := by
  simp only [PyData.eqv]
  exact eqvAll_ints xs ys
theorem shaped_ints (ns : List Int) : SeqAt.shaped (.list (ns.map PyData.int)) = true := PySem.W.ke_shaped_ints ns
section
variable {K : PySem.W.Frag} {σ : L2.St} {H H' : Hp} {ta tb te tx : TE} {t u : TT} {x y z v : V} {r : R2} {a b p : Addr} {xs ys : List Int} {i j : Int}
/-! operators -/
theorem ev_rI0 {g : Int → Int → V} (ha : Ev ta σ H (.int i)) (hb : Ev tb σ H (.int j)) : Ev (tOp (rI0 g) ta tb) σ H (g i j) := ev_op ha hb rv_I0
theorem ev_rI {C : Int → Int → Prop} {g : Int → Int → V} (ha : Ev ta σ H (.int i)) (hb : Ev tb σ H (.int j)) (hc : C i j) : Ev (tOp (rI C g) ta tb) σ H (g i j) := ev_op ha hb (rv_I hc)
theorem ev_eq (ha : Ev ta σ H x) (hb : Ev tb σ H y) (h : scal x y = true) : Ev (tOp rEq ta tb) σ H (.bl (decide (x = y))) := ev_op ha hb (rv_eq h)
theorem ev_ne (ha : Ev ta σ H x) (hb : Ev tb σ H y) (h : scal x y = true) : Ev (tOp rNe ta tb) σ H (.bl (!decide (x = y))) := ev_op ha hb (rv_ne h)
theorem rv_eqL (h1 : SqL K H a (xs.map V.int)) (h2 : SqL K H b (ys.map V.int)) : RV (rEqD K) (.ref a) (.ref b) H (.bl (decide (xs = ys))) := fun H1 e Q q =>
  ⟨_, _, dp_ints (ex_l e h1), dp_ints (ex_l e h2), shaped_ints xs, shaped_ints ys, by rw [eqv_ints]; exact q H1 (Ex.refl H1)⟩
theorem rv_neL (h1 : SqL K H a (xs.map V.int)) (h2 : SqL K H b (ys.map V.int)) : RV (rNeD K) (.ref a) (.ref b) H (.bl (!decide (xs = ys))) := fun H1 e Q q =>
  ⟨_, _, dp_ints (ex_l e h1), dp_ints (ex_l e h2), shaped_ints xs, shaped_ints ys, by rw [eqv_ints]; exact q H1 (Ex.refl H1)⟩
/-- is None, is True -/
theorem ev_isN (ha : Ev ta σ H x) : Ev (tOp (fun x y H Q => y = .non ∧ Q (.bl (decide (x = .non))) H) ta (tC .non)) σ H (.bl (decide (x = .non))) := ev_op ha ev_c fun H1 _ _ q => ⟨rfl, q H1 (Ex.refl H1)⟩
theorem ev_notN (ha : Ev ta σ H x) : Ev (tOp (fun x y H Q => y = .non ∧ Q (.bl (!decide (x = .non))) H) ta (tC .non)) σ H (.bl (!decide (x = .non))) := ev_op ha ev_c fun H1 _ _ q => ⟨rfl, q H1 (Ex.refl H1)⟩
theorem ev_isB {c d : Bool} (ha : Ev ta σ H (.bl c)) (hb : Ev tb σ H (.bl d)) : Ev (tOp rIsB ta tb) σ H (.bl (decide (c = d))) := ev_op ha hb fun H1 _ _ q => ⟨c, d, rfl, rfl, q H1 (Ex.refl H1)⟩
theorem ev_notB {c d : Bool} (ha : Ev ta σ H (.bl c)) (hb : Ev tb σ H (.bl d)) : Ev (tOp rNotB ta tb) σ H (.bl (!decide (c = d))) := ev_op ha hb fun H1 _ _ q => ⟨c, d, rfl, rfl, q H1 (Ex.refl H1)⟩
/-! calls of built-ins, by values -/
theorem rc_isi {c : V} {t u : Value} {k : Bool} (hc : ClsV c u) (ht : ∀ H1, Ex H H1 → TyX K H1 x t) (hk : PySem.W.kitOne K t u = some k) : RC (rIsi K) [x, c] H (.bl k) := fun H1 e _ q =>
  ⟨x, c, t, u, k, rfl, hc, ht H1 e, hk, q H1 (Ex.refl H1)⟩
theorem rc_isiL {zs : List V} (h : H a = some (.lst zs)) : RC (rIsi K) [.ref a, .ty "list"] H (.bl true) := rc_isi (.ty _) (fun H1 e => .base (.lst (e a _ h))) (kit_ty (by decide +kernel))
theorem rc_isiInt : RC (rIsi K) [.int i, .ty "int"] H (.bl true) := rc_isi (.ty _) (fun _ _ => .base (.int _)) (kit_ty (by decide +kernel))
theorem rc_isiBool : RC (rIsi K) [.int i, .ty "bool"] H (.bl false) := rc_isi (.ty _) (fun _ _ => .base (.int _)) (kit_ty (by decide +kernel))
theorem rc_len {zs : List V} (h : SqL K H a zs) : RC (rLenK K) [.ref a] H (.int (zs.length : Int)) := fun H1 e _ q =>
  ⟨a, zs, rfl, .inl (ex_l e h), q H1 (Ex.refl H1)⟩
theorem rc_sum (h : SqL K H a (xs.map V.int)) : RC (rSum K) [.ref a] H (.int xs.sum) := fun H1 e _ q => ⟨a, xs, rfl, ex_l e h, q H1 (Ex.refl H1)⟩
theorem rc_all {bs : List Bool} (h : SqL K H a (bs.map V.bl)) : RC (rAll K) [.ref a] H (.bl (bs.all id)) := fun H1 e _ q => ⟨a, bs, rfl, ex_l e h, q H1 (Ex.refl H1)⟩
theorem rc_any {bs : List Bool} (h : SqL K H a (bs.map V.bl)) : RC (rAny K) [.ref a] H (.bl (bs.any id)) := fun H1 e _ q => ⟨a, bs, rfl, ex_l e h, q H1 (Ex.refl H1)⟩
theorem rc_min2 : RC (fun xs H Q => ∃ i j, xs = [.int i, .int j] ∧ Q (.int (if j < i then j else i)) H) [.int i, .int j] H (.int (if j < i then j else i)) := fun H1 _ _ q => ⟨i, j, rfl, q H1 (Ex.refl H1)⟩
theorem rc_max2 : RC (fun xs H Q => ∃ i j, xs = [.int i, .int j] ∧ Q (.int (if j > i then j else i)) H) [.int i, .int j] H (.int (if j > i then j else i)) := fun H1 _ _ q => ⟨i, j, rfl, q H1 (Ex.refl H1)⟩
/-- a call whose only argument is a new list -/
theorem ev_cbL {r : List V → Hp → VK → Prop} {zs : List V} (h : EvL ta σ H zs) (hr : ∀ p H1, Ex H H1 → H1 p = some (.lst zs) → RC r [.ref p] H1 z) : Ev (tCB r (tCons ta tNil)) σ H z := fun H1 e Q q =>
  h H1 e _ fun p H2 _ e2 hp => hr p H2 (e.trans e2) hp H2 (Ex.refl H2) Q fun H3 e3 => q H3 (e2.trans e3)
/-- list(xs): a new list -/
theorem rcl_list {zs : List V} (h : SqL K H a zs) : RCL (rListK K) [.ref a] H zs := fun H1 e _ q =>
  ⟨a, zs, rfl, .inl (ex_l e h), fun l hl => q l _ hl (Ex.new hl) upd_same⟩
/-- a value of which P is known: what a call may hand back -/
def EvP (te : TE) (σ : L2.St) (H : Hp) (P : V → Hp → Prop) : Prop := ∀ H1, Ex H H1 → ∀ Q : VK, (∀ v H2, Ex H1 H2 → P v H2 → Q v H2) → te σ H1 Q
theorem q_asgP {i : Nat} {D : Ends} {tz : TS} {P : V → Hp → Prop} (h : EvP te σ H P) (k : ∀ v H1, Ex H H1 → P v H1 → tz D (σ.set i (some v)) H1) : tSeq (tAsg te (gName i)) tz D σ H := h H (Ex.refl H) _ fun v H1 e p => k v H1 e p
theorem EvP.of (h : Ev te σ H v) : EvP te σ H (fun w _ => w = v) := fun H1 e Q q => h H1 e Q fun H2 e2 => q v H2 e2 rfl
theorem evP_call {sp : Sp} {dvs vs : List V} {E : XK} {ta : TA} {P : V → Hp → Prop} (h : EvA ta σ H vs) (hs : ∀ H1, Ex H H1 → ∀ Q : VK, (∀ v H2, Ex H1 H2 → P v H2 → Q v H2) → ∀ E : XK, sp (vs ++ dvs) H1 Q E) : EvP (tCall sp dvs E ta) σ H P := fun H1 e Q q =>
  h H1 e _ fun H2 e2 => hs H2 (e.trans e2) Q (fun v H3 e3 p => q v H3 (e2.trans e3) p) E
/-- xs + ys of lists that stand in H -/
theorem el_cat {l m : Addr} {zs ws : List V} (ha : Ev ta σ H (.ref l)) (hb : Ev tb σ H (.ref m)) (h1 : H l = some (.lst zs)) (h2 : H m = some (.lst ws)) (hz : zs.length + ws.length ≤ 100000) : EvL (tOp rCat ta tb) σ H (zs ++ ws) := fun H1 e Q q =>
  ha H1 e _ fun H2 e2 => hb H2 (e.trans e2) _ fun H3 e3 => ⟨l, m, zs, ws, rfl, rfl, (((e.trans e2).trans e3) l _ h1), (((e.trans e2).trans e3) m _ h2), sz_of hz, fun p hp => q p _ (fresh_back (e2.trans e3) hp) ((e2.trans e3).trans (Ex.new hp)) upd_same⟩
/-- [..] + ys -/
theorem el_catN {m : Addr} {zs ws : List V} (ha : EvL ta σ H zs) (hb : Ev tb σ H (.ref m)) (h2 : H m = some (.lst ws)) (hz : zs.length + ws.length ≤ 100000) : EvL (tOp rCat ta tb) σ H (zs ++ ws) := fun H1 e Q q =>
  ha H1 e _ fun l H2 hl e2 h1 => hb H2 (e.trans e2) _ fun H3 e3 => ⟨l, m, zs, ws, rfl, rfl, e3 l _ h1, (((e.trans e2).trans e3) m _ h2), sz_of hz, fun p hp => q p _ (fresh_back (e2.trans e3) hp) ((e2.trans e3).trans (Ex.new hp)) upd_same⟩
/-- xs + [..] -/
theorem el_catR {l : Addr} {zs ws : List V} (ha : Ev ta σ H (.ref l)) (hb : EvL tb σ H ws) (h1 : H l = some (.lst zs)) (hz : zs.length + ws.length ≤ 100000) : EvL (tOp rCat ta tb) σ H (zs ++ ws) := fun H1 e Q q =>
  ha H1 e _ fun H2 e2 => hb H2 (e.trans e2) _ fun m H3 hm e3 h2 => ⟨l, m, zs, ws, rfl, rfl, (((e.trans e2).trans e3) l _ h1), h2, sz_of hz, fun p hp => q p _ (fresh_back (e2.trans e3) hp) ((e2.trans e3).trans (Ex.new hp)) upd_same⟩
/-- [..] + [..], slices and the like -/
theorem el_catNN {zs ws : List V} (ha : EvL ta σ H zs) (hb : EvL tb σ H ws) (hz : zs.length + ws.length ≤ 100000) : EvL (tOp rCat ta tb) σ H (zs ++ ws) := fun H1 e Q q =>
  ha H1 e _ fun l H2 hl e2 h1 => hb H2 (e.trans e2) _ fun m H3 hm e3 h2 => ⟨l, m, zs, ws, rfl, rfl, e3 l _ h1, h2, sz_of hz, fun p hp => q p _ (fresh_back (e2.trans e3) hp) ((e2.trans e3).trans (Ex.new hp)) upd_same⟩
/-- [..] * k -/
theorem el_rep {zs : List V} {k : Int} (ha : EvL ta σ H zs) (hb : Ev tb σ H (.int k)) (h0 : 0 ≤ k ∧ k ≤ 100000) (hz : zs.length * k.toNat ≤ 100000) : EvL (tOp rRep ta tb) σ H (List.replicate k.toNat zs).flatten := fun H1 e Q q =>
  ha H1 e _ fun l H2 hl e2 h1 => hb H2 (e.trans e2) _ fun H3 e3 => ⟨l, k, zs, rfl, rfl, e3 l _ h1, by omega, by omega, sz_of hz, fun p hp => q p _ (fresh_back (e2.trans e3) hp) ((e2.trans e3).trans (Ex.new hp)) upd_same⟩
theorem EvP.mono {P : V → Hp → Prop} (e : Ex H H') (h : EvP te σ H P) : EvP te σ H' P := fun H1 a Q q => h H1 (e.trans a) Q q
end
end XP
namespace XP
open PySem PySem.Spec PyProof.Rows L2 Evl
/-! ### comprehensions -/
theorem given_getD {ns : List Int} (p : Int → Bool) (g : Int → V) : given ns.length (fun i => p (ns.getD i 0)) (fun i => g (ns.getD i 0)) = (ns.filter p).map g := by
  unfold given
  have key : ∀ (ns : List Int), (List.range ns.length).map (fun i => ns.getD i 0) = ns := by
    intro ns
    refine List.ext_getElem (by simp) fun i h1 h2 => ?_
    rw [List.getElem_map, List.getElem_range]
    simp [List.getD, h2]
  have e2 : ((List.range ns.length).filter fun i => p (ns.getD i 0)).map (fun i => ns.getD i 0) = ns.filter p := by
    have := List.filter_map (f := fun i => ns.getD i 0) (p := p) (l := List.range ns.length)
    rw [key ns] at this
    exact this.symm
  rw [← e2, List.map_map]
  rfl
theorem given_all (n : Nat) (v : Nat → V) : given n (fun _ => true) v = (List.range n).map v := by
  unfold given
  rw [List.filter_eq_self.mpr fun _ _ => rfl]
section
variable {K : PySem.W.Frag} {σ : L2.St} {H H' : Hp} {ta tb te tx : TE} {t u : TT} {x y z v : V} {r : R2} {a b p : Addr} {xs ys : List Int} {i j : Int} {D : Ends} {tz : TS}
theorem et_yes : EvT tYes σ H true := fun H1 _ _ q => q H1 (Ex.refl H1)
theorem el_is {zs ws : List V} (h : EvL te σ H zs) (e : zs = ws) : EvL te σ H ws := by
  rw [← e]
  exact h
theorem el_lcI {tl : TE} {k : Nat} {vs : List Nat} {ns : List Int} (p : Int → Bool) (g : Int → V) (h : Ev tl σ H (.ref a)) (hx : SqL K H a (ns.map V.int)) (hz : ns.length ≤ 40000) (hw : ∀ x, wipe ((wipe σ vs).set k (some x)) vs = wipe σ vs)
    (ht : ∀ (z : Int) H1, Ex H H1 → z ∈ ns → EvT t ((wipe σ vs).set k (some (.int z))) H1 (p z)) (he : ∀ (z : Int) H1, Ex H H1 → z ∈ ns → p z = true → Ev te ((wipe σ vs).set k (some (.int z))) H1 (g z)) :
    EvL (tLc (iList K tl) (gName k) t te vs) σ H ((ns.filter p).map g) := by
  refine el_is (el_lcL (fun i => p (ns.getD i 0)) (fun i => g (ns.getD i 0)) h hx (by rw [List.length_map]; exact hz) hw (fun i x H1 e1 hi => ?_) (fun i x H1 e1 hi hp => ?_)) (by rw [List.length_map]; exact given_getD p g)
  · obtain ⟨z, e, rfl⟩ := get_int hi
    have ez : ns.getD i 0 = z := by simp [List.getD, e]
    rw [ez]
    exact ht z H1 e1 (List.mem_of_getElem? e)
  · obtain ⟨z, e, rfl⟩ := get_int hi
    have ez : ns.getD i 0 = z := by simp [List.getD, e]
    rw [ez] at hp ⊢
    exact he z H1 e1 (List.mem_of_getElem? e) hp
theorem el_lcIA {tl : TE} {k : Nat} {vs : List Nat} {ns : List Int} (g : Int → V) (h : Ev tl σ H (.ref a)) (hx : SqL K H a (ns.map V.int)) (hz : ns.length ≤ 40000) (hw : ∀ x, wipe ((wipe σ vs).set k (some x)) vs = wipe σ vs)
    (he : ∀ (z : Int) H1, Ex H H1 → z ∈ ns → Ev te ((wipe σ vs).set k (some (.int z))) H1 (g z)) :
    EvL (tLc (iList K tl) (gName k) tYes te vs) σ H (ns.map g) := by
  refine el_is (el_lcI (fun _ => true) g h hx hz hw (fun _ _ _ _ => et_yes) fun z H1 e1 hm _ => he z H1 e1 hm) ?_
  rw [List.filter_eq_self.mpr fun _ _ => rfl]
theorem el_lcRA {tr : TA} {k : Nat} {vs : List Nat} {n : Int} (g : Nat → V) (h : EvA tr σ H [.int n]) (hn : 0 ≤ n ∧ n ≤ 40000) (hw : ∀ x, wipe ((wipe σ vs).set k (some x)) vs = wipe σ vs)
    (he : ∀ (i : Nat) H1, Ex H H1 → (i : Int) < n → Ev te ((wipe σ vs).set k (some (.int (i : Int)))) H1 (g i)) :
    EvL (tLc (iRng1 tr) (gName k) tYes te vs) σ H ((List.range n.toNat).map g) :=
  el_is (el_lcR1 (fun _ => true) g h hn hw (fun _ _ _ _ => et_yes) fun i H1 e1 hi _ => he i H1 e1 hi) (given_all _ _)
/-! ### calls of built-ins, further -/
theorem rc_maxOf {m : Int} (h : SqL K H a (xs.map V.int)) (h0 : 0 < xs.length) (hm : ∀ k, k ∈ xs → (∀ y, y ∈ xs → y ≤ k) → k = m) : RC (rMax K) [.ref a] H (.int m) := fun H1 e _ q =>
  ⟨a, xs, rfl, ex_l e h, h0, fun k h1 h2 => by rw [hm k h1 h2]; exact q H1 (Ex.refl H1)⟩
theorem rc_minOf {m : Int} (h : SqL K H a (xs.map V.int)) (h0 : 0 < xs.length) (hm : ∀ k, k ∈ xs → (∀ y, y ∈ xs → k ≤ y) → k = m) : RC (rMin K) [.ref a] H (.int m) := fun H1 e _ q =>
  ⟨a, xs, rfl, ex_l e h, h0, fun k h1 h2 => by rw [hm k h1 h2]; exact q H1 (Ex.refl H1)⟩
theorem ev_maxD {m d : Int} {t1 t2 : TA} (h1 : EvA t1 σ H [.ref a]) (h2 : EvA t2 σ H [.int d]) (h : SqL K H a (xs.map V.int)) (h0 : xs = [] → d = m) (hm : ∀ k, k ∈ xs → (∀ y, y ∈ xs → y ≤ k) → k = m) :
    Ev (tCKw (rMaxD K) t1 t2) σ H (.int m) := fun H1 e Q q => h1 H1 e _ fun H2 e2 => h2 H2 (e.trans e2) _ fun H3 e3 =>
  ⟨a, xs, d, rfl, rfl, ex_l ((e.trans e2).trans e3) h, fun z => by rw [h0 z]; exact q H3 (e2.trans e3), fun k k1 k2 => by rw [hm k k1 k2]; exact q H3 (e2.trans e3)⟩
/-! ### xs[i] of a written list -/
theorem ev_ixN {zs : List V} (ha : EvL ta σ H zs) (hb : ∀ H1, Ex H H1 → Ev tb σ H1 (.int i)) (hv : atI zs i = some v) : Ev (tOp (rIxL K) ta tb) σ H v := ev_opL1 ha hb fun p H1 hp _ => rv_ixL (sq_of hp) hv
theorem ev_ixI (ha : Ev ta σ H (.ref a)) (hb : Ev tb σ H (.int i)) (h : SqL K H a (xs.map V.int)) (h0 : 0 ≤ i) (h1 : i < xs.length) : Ev (tOp (rIxL K) ta tb) σ H (.int (xs.getD i.toNat 0)) := by
  refine ev_op ha hb (rv_ixL h ?_)
  have hi : i.toNat < xs.length := by omega
  obtain ⟨j, rfl⟩ := Int.eq_ofNat_of_zero_le h0
  have hj : j < xs.length := by omega
  refine atI_nat ?_
  rw [List.getElem?_map, List.getElem?_eq_getElem hj]
  simp [List.getD, hj]
theorem ev_ixJ {j : Nat} (ha : Ev ta σ H (.ref a)) (hb : Ev tb σ H (.int (j : Int))) (h : SqL K H a (xs.map V.int)) (hj : j < xs.length) : Ev (tOp (rIxL K) ta tb) σ H (.int (xs.getD j 0)) := ev_ixI (i := (j : Int)) ha hb h (by omega) (by omega)
/-! ### statements that change a list -/
theorem q_rev {l : Addr} {zs : List V} (ha : Ev ta σ H (.ref l)) (hl : H l = some (.lst zs)) (k : ∀ H1, Ex H H1 → tz D σ (upd H1 l (.lst zs.reverse))) : tSeq (tDrop (tBM0 K "list" rReverse ta)) tz D σ H :=
  ha H (Ex.refl H) _ fun H1 e1 => ⟨.inl ⟨rfl, zs, sq_of (e1 l _ hl)⟩, l, zs, rfl, rfl, e1 l _ hl, k H1 e1⟩
theorem q_clear {l : Addr} {zs : List V} (ha : Ev ta σ H (.ref l)) (hl : H l = some (.lst zs)) (k : ∀ H1, Ex H H1 → tz D σ (upd H1 l (.lst []))) : tSeq (tDrop (tBM0 K "list" rClear ta)) tz D σ H :=
  ha H (Ex.refl H) _ fun H1 e1 => ⟨.inl ⟨rfl, zs, sq_of (e1 l _ hl)⟩, l, zs, rfl, rfl, e1 l _ hl, k H1 e1⟩
/-- sorted(xs) as a value: some rising arrangement, new -/
theorem evP_sorted {tr : TA} (h : EvA tr σ H [.ref a]) (hx : SqL K H a (xs.map V.int)) : EvP (tCB (rSortedI K) tr) σ H (fun v H1 => ∃ (p : Addr) (ys : List Int), v = .ref p ∧ H p = none ∧ ys.Perm xs ∧ ys.Pairwise (· ≤ ·) ∧ Ll H1 p ys) := fun H1 e Q q =>
  h H1 e _ fun H2 e2 => ⟨a, xs, rfl, ex_l (e.trans e2) hx, fun ys p hp ho hn => q _ _ (e2.trans (Ex.new hn)) ⟨p, ys, rfl, fresh_back (e.trans e2) hn, hp, ho, upd_same⟩⟩
/-! ### displays of new lists; calls of new lists; a choice as a statement -/
theorem ep_lst3 {t1 t2 t3 : TE} {z1 z2 z3 : List V} (h1 : EvL t1 σ H z1) (h2 : EvL t2 σ H z2) (h3 : EvL t3 σ H z3) : EvP (tLst (tCons t1 (tCons t2 (tCons t3 tNil)))) σ H (fun v H' => ∃ p p1 p2 p3 : Addr, v = .ref p ∧ H' p = some (.lst [.ref p1, .ref p2, .ref p3]) ∧
    (H p1 = none ∧ H' p1 = some (.lst z1)) ∧ (H p2 = none ∧ H' p2 = some (.lst z2)) ∧ (H p3 = none ∧ H' p3 = some (.lst z3))) := fun H1 e Q q =>
  h1 H1 e _ fun p1 H2 n1 e2 k1 => h2 H2 (e.trans e2) _ fun p2 H3 n2 e3 k2 => h3 H3 ((e.trans e2).trans e3) _ fun p3 H4 n3 e4 k3 => ⟨sz_of (by show 3 ≤ 100000; decide), fun p hp => q _ _ (((e2.trans e3).trans e4).trans (Ex.new hp))
    ⟨p, p1, p2, p3, rfl, upd_same, ⟨fresh_back e n1, Ex.new hp _ _ (e4 _ _ (e3 _ _ k1))⟩, ⟨fresh_back (e.trans e2) n2, Ex.new hp _ _ (e4 _ _ k2)⟩, ⟨fresh_back ((e.trans e2).trans e3) n3, Ex.new hp _ _ k3⟩⟩⟩
theorem evP_ixP {P R : V → Hp → Prop} (h : EvP ta σ H P) (hb : ∀ v H1, Ex H H1 → P v H1 → Ev tb σ H1 (.int i)) (hR : ∀ v H1 H2, Ex H1 H2 → R v H1 → R v H2)
    (hr : ∀ v H1, Ex H H1 → P v H1 → ∃ p zs w, v = .ref p ∧ H1 p = some (.lst zs) ∧ atI zs i = some w ∧ R w H1) : EvP (tOp (rIxL K) ta tb) σ H R := fun H1 e Q q =>
  h H1 e _ fun v H2 e2 p2 => by
    obtain ⟨p, zs, w, rfl, hz, hw, r1⟩ := hr v H2 (e.trans e2) p2
    exact hb _ H2 (e.trans e2) p2 H2 (Ex.refl H2) _ fun H3 e3 => ⟨p, zs, i, w, rfl, rfl, sq_of (e3 _ _ hz), hw, q w H3 (e2.trans e3) (hR _ _ _ e3 r1)⟩
theorem ev_callL {sp : Sp} {E : XK} {zs : List V} (h : EvL te σ H zs) (hb : ∀ H1, Ex H H1 → Ev tb σ H1 y) (hs : ∀ p H1, Ex H H1 → H1 p = some (.lst zs) → SpV sp [.ref p, y] H1 z) : Ev (tCall sp [] E (tCons te (tCons tb tNil))) σ H z := fun H1 e Q q =>
  h H1 e _ fun p H2 _ e2 hp => hb H2 (e.trans e2) H2 (Ex.refl H2) _ fun H3 e3 => hs p H3 ((e.trans e2).trans e3) (e3 _ _ hp) H3 (Ex.refl H3) Q (fun H4 e4 => q H4 ((e2.trans e3).trans e4)) E
theorem ev_callLL {sp : Sp} {E : XK} {zs ws : List V} (h : EvL te σ H zs) (hb : ∀ H1, Ex H H1 → EvL tb σ H1 ws) (hs : ∀ p q H1, Ex H H1 → H1 p = some (.lst zs) → H1 q = some (.lst ws) → SpV sp [.ref p, .ref q] H1 z) : Ev (tCall sp [] E (tCons te (tCons tb tNil))) σ H z := fun H1 e Q q =>
  h H1 e _ fun p H2 _ e2 hp => hb H2 (e.trans e2) H2 (Ex.refl H2) _ fun p2 H3 _ e3 hp2 => hs p p2 H3 ((e.trans e2).trans e3) (e3 _ _ hp) hp2 H3 (Ex.refl H3) Q (fun H4 e4 => q H4 ((e2.trans e3).trans e4)) E
theorem s_asgP {i : Nat} {P : V → Hp → Prop} (h : EvP te σ H P) (k : ∀ v H1, Ex H H1 → P v H1 → D.nx (σ.set i (some v)) H1) : tAsg te (gName i) D σ H := h H (Ex.refl H) _ fun v H1 e p => k v H1 e p
theorem s_dropIf {c : Bool} (h : EvT t σ H c) (h1 : c = true → ∀ H1, Ex H H1 → tDrop ta D σ H1) (h2 : c = false → ∀ H1, Ex H H1 → tDrop tb D σ H1) : tDrop (tIf t ta tb) D σ H := h H (Ex.refl H) _ fun H1 e => by
  cases c with
  | true => exact h1 rfl H1 e
  | false => exact h2 rfl H1 e
theorem s_pop {l : Addr} {zs : List V} {w : V} (ha : Ev ta σ H (.ref l)) (hl : H l = some (.lst zs)) (hw : zs[zs.length - 1]? = some w) (k : ∀ H1, Ex H H1 → D.nx σ (upd H1 l (.lst zs.dropLast))) : tDrop (tBM0 K "list" rPop ta) D σ H :=
  ha H (Ex.refl H) _ fun H1 e1 => ⟨.inl ⟨rfl, zs, sq_of (e1 l _ hl)⟩, l, zs, w, rfl, rfl, e1 l _ hl, hw, k H1 e1⟩
end
end XP
/-! ## Rules of our own: three comparisons in a row, xs[i] += e, a list's count of True -/
namespace XP
open PySem PySem.Spec PyProof.Rows L2 Evl
/-- a op b op' c op'' d -/
def tChain3 (r1 r2 r3 : R2) (ta tb tc td : TE) : TE := fun σ H Q => ta σ H fun x H1 => tb σ H1 fun y H2 => r1 x y H2 fun z H3 => ∃ k, z = .bl k ∧
  (if k = true then tc σ H3 fun x3 H4 => r2 y x3 H4 fun z2 H5 => ∃ k2, z2 = .bl k2 ∧ (if k2 = true then td σ H5 fun x4 H6 => r3 x3 x4 H6 Q else Q (.bl false) H5) else Q (.bl false) H3)
section
variable {X : Cx} {a b c d : Expr} {ta tb tc td : TE} {pos : Pos}
theorem pe_chain3 {o1 o2 o3 : CmpOp} {r1 r2 r3 : R2} (h1 : OpR X (compareOp o1) r1) (h2 : OpR X (compareOp o2) r2) (h3 : OpR X (compareOp o3) r3) (ha : PE X a ta) (hb : PE X b tb) (hc : PE X c tc) (hd : PE X d td)
    (hm : lastMarks [o1, o2, o3] [b, c, d] = false := by with_unfolding_all rfl) : PE X (.Compare a [o1, o2, o3] [b, c, d] pos) (tChain3 r1 r2 r3 ta tb tc td) := by
  refine ⟨fun pins s σ H Q I h => Compare_chain (thn (ha.run pins s σ H _ I h) fun va sa ⟨x, Ha, Ia, ra, qa⟩ => chain_link (thn (hb.run pins sa σ Ha _ Ia qa) fun vb sb ⟨y, Hb, Ib, rb, qb⟩ => thn (h1 pins sb σ Hb x y va vb _ Ib ra rb qb) fun w1 s1 hw1 => ?_)) hm⟩
  obtain ⟨z1, H1, I1, rz1, k1, rfl, q1⟩ := hw1
  obtain rfl : w1 = Value.bool k1 := rz1
  refine wpAny_truthy_bool ?_
  cases k1
  · exact ite_ff ⟨V.bl false, H1, I1, rfl, q1⟩
  · refine ite_tt (chain_link (thn (hc.run pins s1 σ H1 _ I1 q1) fun vc sc ⟨y3, Hc, Ic, rc, qc⟩ => thn (h2 pins sc σ Hc y y3 vb vc _ Ic rb rc qc) fun w2 s2 hw2 => ?_))
    obtain ⟨z2, H2, I2, rz2, k2, rfl, q2⟩ := hw2
    obtain rfl : w2 = Value.bool k2 := rz2
    refine wpAny_truthy_bool ?_
    cases k2
    · exact ite_ff ⟨V.bl false, H2, I2, rfl, q2⟩
    · exact ite_tt (chain_last (thn (hd.run pins s2 σ H2 _ I2 q2) fun vd sd ⟨y4, Hd, Id, rd, qd⟩ => h3 pins sd σ Hd y3 y4 vc vd Q Id rc rd qd))
/-- xs[i] as a value, for xs[i] op= e -/
theorem get_listK {K : PySem.W.Frag} (hK : X.K = K) : PGet X (fun o i H Q => ∃ p zs k v, o = .ref p ∧ i = .int k ∧ SqL K H p zs ∧ 0 ≤ k ∧ zs[k.toNat]? = some v ∧ Q v H) := by
  subst hK
  intro pins s σ H o i ov iv Q I ro ri h
  obtain ⟨p, zs, k, v, rfl, rfl, hq, h0, hv, q⟩ := h
  obtain rfl : ov = Value.ref p := ro
  obtain ⟨t, rfl⟩ := ri
  obtain ⟨its, r, pl, hz⟩ := I.list hq
  obtain ⟨w, ew, rw'⟩ := r.get hv
  have hn := line63
  have hl := r.length
  have hk : k.toNat < zs.length := (List.getElem?_eq_some_iff.mp hv).1
  refine wpAny_getItem_list (x := w) pl.isList h0 (by omega) (by simpa using ew) ?_
  exact ⟨v, H, I, rw', q⟩
def tAugL (K : PySem.W.Frag) (to ti te : TE) (f : Int → Int → Int) : TS :=
  tAugS to ti te (fun o i H Q => ∃ p zs k v, o = .ref p ∧ i = .int k ∧ SqL K H p zs ∧ 0 ≤ k ∧ zs[k.toNat]? = some v ∧ Q v H) (ipI f) rSetL
theorem ps_augL {K : PySem.W.Frag} {o i e : Expr} {to ti te : TE} {f : Int → Int → Int} {op : Operator} {tpos : Pos} (hK : X.K = K) (ho : PE X o to) (hi : PE X i ti) (he : PE X e te) (hp : PIp X op (ipI f))
    (ha : ∀ ov iv new, augStore i ov iv new = (do holding [new, ov, iv] (setItem ov iv new); release [new, ov, iv] []; pure .next) := by intros; rfl) : PS X (.AugAssign (.Subscript o i tpos) op e pos) (tAugL K to ti te f) :=
  ps_augS ho hi (get_listK hK) he hp set_list ha
/-- xs.count(True) of a list of truths -/
def rCountB (K : PySem.W.Frag) : V → List V → Hp → VK → Prop := fun x xs H Q => ∃ (p : Addr) (bs : List Bool) (k : Bool), x = .ref p ∧ xs = [.bl k] ∧ SqL K H p (bs.map V.bl) ∧ Q (.int (bs.count k : Nat)) H
theorem readsAll_bools (h : Heap) : ∀ bs : List Bool, ReadsAll h (bs.map Value.bool) (bs.map PyData.bool) []
  | [] => .nil
  | b :: r => ReadsAll.cons (as := []) (bs := []) (.bool b) (readsAll_bools h r)
theorem countIn_bools (k : Bool) : ∀ bs : List Bool, countIn (.bool k) (bs.map PyData.bool) = ((bs.count k : Nat) : Int)
  | [] => rfl
  | b :: r => by
    rw [List.map_cons, countIn, countIn_bools k r, List.count_cons]
    cases b <;> cases k <;> simp [PySem.Spec.same] <;> omega
theorem mt_countB {K : PySem.W.Frag} (hK : X.K = K) : MtR X "list.count" (rCountB K) := by
  subst hK
  intro pins s σ H x xs v us Q I rx rxs h
  obtain ⟨p, bs, k, rfl, rfl, hs, q⟩ := h
  obtain rfl : v = Value.ref p := rx
  obtain ⟨u, rfl, ru⟩ := rxs.one
  obtain rfl : u = Value.bool k := ru
  obtain ⟨its, rv, pl, hlen⟩ := I.list hs
  have e := rv.bls
  subst e
  refine count_list_bools pl.isList (readsAll_bools s.heap bs) (List.all_eq_true.mpr fun d hd => by obtain ⟨b, _, rfl⟩ := List.mem_map.mp hd; rfl) ?_
  rw [countIn_bools]
  exact ⟨.int ((bs.count k : Nat) : Int), H, I.tok _, ⟨_, rfl⟩, q⟩
end
section
variable {K : PySem.W.Frag} {σ : L2.St} {H H' : Hp} {ta tb tc td te tx : TE} {x y z v : V} {i j : Int} {D : Ends} {tz : TS}
/-- 0 <= i < j <= n and the like -/
theorem ev_chain3 {g1 g2 g3 : Int → Int → Bool} {i1 i2 i3 i4 : Int} (ha : Ev ta σ H (.int i1)) (hb : Ev tb σ H (.int i2)) (hc : Ev tc σ H (.int i3)) (hd : Ev td σ H (.int i4)) :
    Ev (tChain3 (rI0 fun a b => .bl (g1 a b)) (rI0 fun a b => .bl (g2 a b)) (rI0 fun a b => .bl (g3 a b)) ta tb tc td) σ H (.bl (g1 i1 i2 && (g2 i2 i3 && g3 i3 i4))) := fun H1 e Q q =>
  ha H1 e _ fun H2 e2 => hb H2 (e.trans e2) _ fun H3 e3 => ⟨i1, i2, rfl, rfl, _, rfl, by
    cases k1 : g1 i1 i2 with
    | false =>
      refine iteF ?_
      rw [k1] at q
      exact q H3 (e2.trans e3)
    | true =>
      refine iteT (hc H3 ((e.trans e2).trans e3) _ fun H4 e4 => ⟨i2, i3, rfl, rfl, _, rfl, ?_⟩)
      rw [k1] at q
      cases k2 : g2 i2 i3 with
      | false =>
        refine iteF ?_
        rw [k2] at q
        exact q H4 ((e2.trans e3).trans e4)
      | true =>
        refine iteT (hd H4 (((e.trans e2).trans e3).trans e4) _ fun H5 e5 => ⟨i3, i4, rfl, rfl, ?_⟩)
        rw [k2] at q
        exact q H5 (((e2.trans e3).trans e4).trans e5)⟩
/-- a < b <= c -/
theorem ev_chain2 {g1 g2 : Int → Int → Bool} {i1 i2 i3 : Int} (ha : Ev ta σ H (.int i1)) (hb : Ev tb σ H (.int i2)) (hc : Ev tc σ H (.int i3)) :
    Ev (tChain (rI0 fun a b => .bl (g1 a b)) (rI0 fun a b => .bl (g2 a b)) ta tb tc) σ H (.bl (g1 i1 i2 && g2 i2 i3)) := fun H1 e Q q =>
  ha H1 e _ fun H2 e2 => hb H2 (e.trans e2) _ fun H3 e3 => ⟨i1, i2, rfl, rfl, _, rfl, by
    cases k1 : g1 i1 i2 with
    | false =>
      refine iteF ?_
      rw [k1] at q
      exact q H3 (e2.trans e3)
    | true =>
      refine iteT (hc H3 ((e.trans e2).trans e3) _ fun H4 e4 => ⟨i2, i3, rfl, rfl, ?_⟩)
      rw [k1] at q
      exact q H4 ((e2.trans e3).trans e4)⟩
/-- [*xs, e, ..] -/
theorem ea_star {t : TA} {a : Addr} {zs vs : List V} (h : Ev te σ H (.ref a)) (hz : SqL K H a zs) (ht : EvA t σ H vs) : EvA (StX.tStar K te t) σ H (zs ++ vs) := fun H1 e Q q =>
  h H1 e _ fun H2 e2 => ⟨a, zs, rfl, .inr (ex_l (e.trans e2) hz), ht H2 (e.trans e2) _ fun H3 e3 => q H3 (e2.trans e3)⟩
/-- xs[i] += e -/
theorem q_augL {l : Addr} {ns : List Int} {f : Int → Int → Int} {k : Nat} {a b : Int} (ho : Ev ta σ H (.ref l)) (hi : Ev tb σ H (.int (k : Int))) (he : Ev te σ H (.int b)) (hl : Ll H l ns) (hk : ns[k]? = some a)
    (g : ∀ H1, Ex H H1 → tz D σ (upd H1 l (.lst ((ns.set k (f a b)).map V.int)))) : tSeq (tAugL K ta tb te f) tz D σ H :=
  ho H (Ex.refl H) _ fun H1 e1 => hi H1 e1 _ fun H2 e2 => ⟨l, ns.map V.int, k, .int a, rfl, rfl, Ll.sq ((e1.trans e2) _ _ hl), by omega, by rw [Int.toNat_natCast, List.getElem?_map, hk]; rfl,
    he H2 (e1.trans e2) _ fun H3 e3 => ⟨a, b, rfl, rfl, l, ns.map V.int, k, k, rfl, rfl, (((e1.trans e2).trans e3) _ _ hl), Evl.ixN_nat (by rw [List.length_map]; exact (List.getElem?_eq_some_iff.mp hk).1), by
      rw [← List.map_set] at *
      exact g H3 ((e1.trans e2).trans e3)⟩⟩
end
end XP
/-! ## An error that a clause names and a local name keeps: try: .. except C as n: y = n -/
namespace XP
open PySem PySem.Spec PyProof.Rows L2 Evl
/-- an error object of the class cls stands at e -/
def ErrO (cls : Value) (e : Addr) : HO := .ext fun h => ∃ ob : Obj, h.get? e = some ob ∧ Zc cls none ob ∧ ∃ fs, ob.data = .fields fs
section
variable {X : Cx} {pins : List (Addr × Obj)} {σ : L2.St} {H : Hp} {s : Shared}
/-- a pinned error object is tracked from here on -/
theorem tracked_err {e : Addr} {ob : Obj} {cls : Value} (I : Inv X ((e, ob) :: pins) σ H s) (hz : Zc cls none ob) (hd : ∃ fs, ob.data = .fields fs) (hnew : X.s_0.heap.get? e = none) (hcell : ∀ x c, X.env.cells.lookup x = some c → c ≠ e) (hpin : ∀ p ∈ X.pn ++ pins, p.1 ≠ e) :
    Inv X pins σ (upd H e (ErrO cls e)) s := by
  obtain ⟨hg, hn, hL, hF, _⟩ := I.pin (e, ob) (List.mem_append_right _ List.mem_cons_self)
  have away : ∀ b o, X.s_0.heap.get? b = some o → b ≠ e := fun b o h z => by
    subst z
    rw [hnew] at h
    cases h
  have more : ∀ p ∈ X.pn ++ pins, p ∈ X.pn ++ (e, ob) :: pins := fun p hp => (List.mem_append.mp hp).elim (fun q => List.mem_append_left _ q) fun q => List.mem_append_right _ (List.mem_cons_of_mem _ q)
  exact {
    ok := I.ok, os := I.os, bare := I.bare, loc := I.loc, cell := I.cell, len := I.len
    base := {
      keep := I.base.keep, slot := I.base.slot, there := I.base.there
      free := fun b o h n x => (upd_ne (away b o h)).trans (I.base.free b o h n x)
      tups := fun b zs h => (upd_ne (ne_of_none (I.base.tups b zs h) hn)).trans (I.base.tups b zs h)
      frzs := fun b o u h => (upd_ne (ne_of_none (I.base.frzs b o u h) hn)).trans (I.base.frzs b o u h)
      tbls := fun b ps h => by
        obtain ⟨m, k⟩ := I.base.tbls b ps h
        exact ⟨m, (upd_ne (ne_of_none k hn)).trans k⟩ }
    free := (upd_ne (Ne.symm hL)).trans I.free
    freeC := fun x c h => (upd_ne (hcell x c h)).trans (I.freeC x c h)
    pin := fun p hp => by
      obtain ⟨k1, k2, k3⟩ := I.pin p (more p hp)
      exact ⟨k1, (upd_ne (hpin p hp)).trans k2, k3⟩
    hok := I.hok.laidN (fun _ _ q => q) hn ⟨⟨ob, hg, hz, hd⟩, ⟨ob, hg⟩, fun h1 h2 ⟨o, q, r⟩ k => ⟨o, k o q, r⟩⟩ }
/-- what the clause wishes of an error of the body; slot i the clause's name, slot j the name that keeps it -/
def wKeep (K : PySem.W.Frag) (c : Value) (i j : Nat) (Wout : WX) (D : Ends) : WX := fun cls d σ H =>
  ∃ b, PySem.W.exmOne K cls c = some b ∧ (b = true → d = none ∧ ∀ e, H e = none → D.nx (((σ.set i (some (.ref e))).set j (some (.ref e))).set i none) (upd H e (ErrO cls e))) ∧ (b = false → Wout cls d σ H)
theorem ps_try_keep {x n y : Str} {c : Value} {i j : Nat} {body : List Stmt} {np py pn1 pas pos' pos : Pos} {tb : WX → TS} {Wout : WX} (hs : X.stack = X.env :: X.outer) (hf : X.env.frame = some X.env.locals) (hex : X.ex = []) (hN : X.N.Nodup) (hi : X.N[i]? = some n) (hj : X.N[j]? = some y)
    (hln : X.env.kindOf n = some .local) (hly : X.env.kindOf y = some .local) (hc : Names X x c) (tk : Takes X Wout)
    (hb : ∀ (W : WX) (pn : List (Addr × Obj)) (xe : Value → Shared → Prop), Takes (X.tr pn xe) W → PassesOwn (model X.prog X.w) X.A X.env xe → PSs (X.tr pn xe) body (tb W))
    (hd1 : (n == ("__debug__" : Str)) = false := by decide) (hd2 : (n == ("__classdict__" : Str)) = false := by decide) :
    PS X (.Try body [.ExceptHandler (some (.Name x np)) (some n) [.Assign [.Name y py] (.Name n pn1) pas] pos'] [] [] pos) (fun D σ H => tb (wKeep X.K c i j Wout D) D σ H) := by
  refine ⟨fun pins s σ H D I h => wpAny_Try_except ?_⟩
  have ok := I.ok
  have fra : X.A.frames = some (X.env :: X.outer) := ok.frames.trans (by rw [hs])
  refine wpAny_mono ((hb (wKeep X.K c i j Wout D) (X.pn ++ pins) _ ?taken PassesOwn.looking).run [] s σ H D (I.toTry _) h) (fun fl t hfl => ?_) fun e t he => he
  case taken =>
    intro u t xx
    obtain ⟨e, G, s1, pins1, σ1, H1, cls, d, rfl, J0, hG, up, sky, hn, hos, hbare, b, hexm, yes, no⟩ := xx
    have J1 : Inv X pins σ1 H1 s1 := J0.ofTry ok
    refine Sky.land Zc.steady fra hf (by rw [← hs]; exact sky) fun h2 fly2 up2 => ?_
    have J2 : Inv X pins σ1 H1 { t with heap := h2 } := J1.landed hG fly2.1 (up.trans up2) hos hbare
    obtain ⟨ob2, vs2, get2, zc2, dat2⟩ := fly2.there
    have nofrm : e ∉ frs (X.env :: X.outer) := fun hm => by
      obtain ⟨_, o, ho, hno⟩ := fly2.2.2.1.mem hm
      rw [get2] at ho
      cases ho
      exact hno _ dat2
    have nloc : e ≠ X.env.locals := fun z => nofrm (List.mem_filterMap.mpr ⟨X.env, List.mem_cons_self, by rw [hf, z]⟩)
    have nfs : e ∉ X.fs := fun hm => by
      obtain ⟨v, hv, q⟩ := List.mem_filterMap.mp hm
      exact nofrm (List.mem_filterMap.mpr ⟨v, List.mem_cons_of_mem _ hv, q⟩)
    have fresh1 : s1.heap.get? e = none := by
      cases q : s1.heap.get? e with
      | none => rfl
      | some o =>
        have k := hG e o q (by rw [hs]; exact nofrm)
        rw [fly2.2.1] at k
        cases k
    have fresh0 : X.s_0.heap.get? e = none := by
      cases q : X.s_0.heap.get? e with
      | none => rfl
      | some o =>
        obtain ⟨o', k⟩ := J1.base.there e o q (by rw [hex]; exact List.not_mem_nil)
        rw [fresh1] at k
        cases k
    have ncell : ∀ z cc, X.env.cells.lookup z = some cc → cc ≠ e := fun z cc hz w => by
      obtain ⟨v, o, ho, _⟩ := J1.cell z cc hz
      rw [w, fresh1] at ho
      cases ho
    have npin : ∀ p ∈ X.pn ++ pins, p.1 ≠ e := fun p hp w => by
      have k := (J1.pin p hp).1
      rw [w, fresh1] at k
      cases k
    have S2 := J2.suite get2 dat2 hn nloc nfs
    refine wpAny_handleBy_cons (codeAny_handlers_test ?_) fun z => nomatch z
    have looks : PySem.W.Looks (model X.prog X.w) h2 (typeOf (.ref e)) cls := fun A Q E s k q => wpAny_typeOf_ref (k _ _ get2) (by rw [zc2.1]; exact q)
    have isIn := PySem.W.exm_one (M := model X.prog X.w) J2.kIn looks hexm
    have named : ∀ {Q : Value → Shared → Prop} {E : Value → Shared → Prop}, Q c { t with heap := h2 } → wpAny (model X.prog X.w) (X.A.mark (some (.ref e))) (eval (.Name x np) X.env) Q E { t with heap := h2 } := fun q => by
      rcases hc with ⟨g1, g2, g3 | ⟨g3, g4, g5⟩⟩
      · exact ld_glob (X := X.suite e ((e, ob2) :: (X.pn ++ pins))) S2 g1 g3 q g2
      · exact ld_blt (X := X.suite e ((e, ob2) :: (X.pn ++ pins))) S2 g1 g3 g4 q g5 g2
    refine named (isIn.here ?_)
    cases b with
    | false =>
      show wpAny _ X.A (handleBy (.ref e) X.env []) _ _ _
      obtain ⟨_, _, _, ob, fs, T, oT, tf, ge, ze, de, h1, _⟩ := id fly2
      refine wpAny_handleBy_nil ?_
      unfold PySem.passOn
      refine wpAny_bind (wpAny_field ge de h1 ?_)
      rw [if_neg (show ¬ (Value.ref T == Value.none) = true from by simp)]
      have out : wpAny (model X.prog X.w) X.A (setFlight (.ref e) X.env.frame) (fun _ s4 => wpAny (model X.prog X.w) X.A (throw (.ref e) : Sem Flow) (SP X pins D) X.xe s4) X.xe { t with heap := h2 } := by
        rw [hf]
        exact HandSPX.setFlight_upZ fly2 fun h4 held up4 => wpAny_throw (tk _ _ ⟨e, G, s1, pins, σ1, H1, cls, d, rfl, J1, hG, (up.trans up2).trans up4, .inr (.inr (by rw [hs]; exact held)), hn, hos, hbare, no rfl⟩)
      first
        | exact wpAny_bind (wpAny_pure (wpAny_bind out))
        | exact wpAny_bind out
    | true =>
      obtain ⟨rfl, go⟩ := yes rfl
      refine codeAny_handlers_suite_as (HandSPX.lands_againZ fly2 fun h4 fly4 up4 => ?_)
      have J4 : Inv X pins σ1 H1 { t with heap := h4 } := J1.landed hG fly4.1 ((up.trans up2).trans up4) hos hbare
      obtain ⟨ob4, vs4, get4, zc4, dat4⟩ := fly4.there
      have S4 := J4.suite get4 dat4 hn nloc nfs
      refine store_ok (X := X.suite e ((e, ob4) :: (X.pn ++ pins))) (v := .ref e) S4 hN hi (.inl hln) rfl (fun s5 S5 => ?_) (.inr hln)
      have body1 : PSs (X.suite e ((e, ob4) :: (X.pn ++ pins))) [.Assign [.Name y py] (.Name n pn1) pas] (tAsg (tVar i) (gName j)) := pss_one (ps_set hN hj (.inl hly) (pe_var hi (.inl hln) hd1 hd2) (by rfl) (.inr hly))
      have hlenσ : σ1.length = X.N.length := J1.len
      have hil : i < X.N.length := (List.getElem?_eq_some_iff.mp hi).1
      refine wpAny_mono (body1.run [] s5 _ H1 { nx := fun σ6 H6 => σ6 = (σ1.set i (some (.ref e))).set j (some (.ref e)) ∧ H6 = H1, rt := fun _ _ => False } S5 ⟨.ref e, by rw [List.getElem?_set_self (by omega)], rfl, rfl⟩) (fun fl s6 hfl => ?_) fun _ _ z => False.elim z
      cases fl with
      | ret v =>
        obtain ⟨_, _, _, _, _, q⟩ := hfl
        exact False.elim q
      | brk =>
        obtain ⟨_, _, _, q⟩ := hfl
        exact False.elim q
      | cont =>
        obtain ⟨_, _, _, q⟩ := hfl
        exact False.elim q
      | next =>
        obtain ⟨σ6, H6, S6, rfl, rfl⟩ := hfl
        have J6 : Inv X ((e, ob4) :: pins) ((σ1.set i (some (.ref e))).set j (some (.ref e))) H6 s6 :=
          ⟨ok, S6.os, S6.bare, S6.base, S6.loc, S6.cell, S6.free, S6.freeC, fun p hp => S6.pin p (List.mem_append_left _ ((List.mem_append.mp hp).elim (fun q => List.mem_cons_of_mem _ (List.mem_append_left _ q)) fun q => (List.mem_cons.mp q).elim (fun z => by rw [z]; exact List.mem_cons_self) fun z => List.mem_cons_of_mem _ (List.mem_append_right _ z))), S6.hok, S6.len⟩
        exact gone_ok J6 hN hi hln fun s7 J7 => ⟨_, _, tracked_err J7 zc4 ⟨_, dat4⟩ fresh0 ncell npin, go e hn⟩
  case _ =>
    cases fl with
    | next =>
      obtain ⟨σ', H', J', q⟩ := hfl
      exact wpAny_execs_nil ⟨σ', H', J'.ofTry ok, q⟩
    | brk =>
      obtain ⟨σ', H', J', q⟩ := hfl
      exact ⟨σ', H', J'.ofTry ok, q⟩
    | cont =>
      obtain ⟨σ', H', J', q⟩ := hfl
      exact ⟨σ', H', J'.ofTry ok, q⟩
    | ret u =>
      obtain ⟨v, σ', H', J', r, q⟩ := hfl
      exact ⟨v, σ', H', J'.ofTry ok, r, q⟩
/-- isinstance(e, c) of such an error -/
def rIsX (K : PySem.W.Frag) : List V → Hp → VK → Prop := fun vs H Q => ∃ (e D : Addr) (c : V) (u : Value) (b : Bool), vs = [.ref e, c] ∧ H e = some (ErrO (.ref D) e) ∧ ExcC K D ∧ ClsV c u ∧ PySem.W.kitOne K (.ref D) u = some b ∧ Q (.bl b) H
theorem isxK {K : PySem.W.Frag} (hK : X.K = K) : CallR X (.builtin "isinstance") (rIsX K) := by
  subst hK
  intro pins s σ H xs us Q I r h
  obtain ⟨e, D, c, u, b, rfl, he, C, hc, hk, q⟩ := h
  obtain ⟨u1, u2, rfl, r1, r2⟩ := vals2 r
  obtain rfl : u1 = Value.ref e := r1
  obtain rfl := hc.eq r2
  obtain ⟨⟨ob, g, ⟨z1, z2⟩, fs, df⟩, _, _⟩ := I.hok e _ he
  have at1 : PySem.W.InstAt s.heap e ob D none := by
    obtain ⟨k1, k2, k3, k4⟩ := ob
    simp only at z1 z2 df
    subst z1 z2 df
    exact ⟨g, rfl, rfl, trivial⟩
  exact PySem.W.kia_one (PySem.W.handS_kitx_exc C.hg C.hk C.hs C.hd C.ha C.hn C.ht C.hm) I.kIn at1 hk (fun z => nomatch z) fun tk => ⟨.bl b, H, I.kept (t' := tk) fun _ _ z => z, rfl, q⟩
end
/-- isinstance's answer of a class, by the top's facts -/
theorem kit_same {K : PySem.W.Frag} {D : Addr} : PySem.W.kitOne K (.ref D) (.ref D) = some true := if_pos (by simp)
theorem kit_own {K : PySem.W.Frag} {D C : Addr} {b : Bool} (hn : (Value.ref D == Value.ref C) = false) (hd : PySem.W.hasDictIn K C = true) (ht : PySem.W.typeIn K (.ref C) = some (.type "type")) (hs : PySem.W.subIn K (.ref D) (.ref C) = some b) : PySem.W.kitOne K (.ref D) (.ref C) = some b := by
  obtain ⟨cd, hc, _⟩ := PySem.W.any_some hd
  have e2 : ((PySem.W.clsIn K C).isSome && PySem.W.typeIn K (.ref C) == some (.type "type")) = true := by
    rw [hc, ht]
    rfl
  unfold PySem.W.kitOne
  rw [if_neg (by rw [hn]; exact Bool.false_ne_true)]
  show (if _ then _ else _) = _
  rw [if_pos e2]
  exact hs
theorem kit_built {K : PySem.W.Frag} {D : Addr} {T : String} {b : Bool} (hm : PySem.W.kitMeta T = true) (hs : PySem.W.subIn K (.ref D) (.type T) = some b) : PySem.W.kitOne K (.ref D) (.type T) = some b := by
  unfold PySem.W.kitOne
  rw [if_neg (by intro z; cases z)]
  show (if _ then _ else _) = _
  rw [if_pos hm]
  exact hs
end XP
/-! ## More words: tuples, methods by value, displays of new things, ranges from a number on -/
namespace XP
open PySem PySem.Spec PyProof.Rows L2 Evl
section
variable {K : PySem.W.Frag} {σ : L2.St} {H H' : Hp} {ta tb te tx : TE} {t u : TT} {x y z v : V} {r : R2} {a b p : Addr} {xs ys : List Int} {i j : Int} {D : Ends} {tz tu tw : TS}
/-- a method of a list, by value -/
theorem ev_bmL {m : V → List V → Hp → VK → Prop} {l : Addr} {zs vs : List V} {tr : TA} (ha : Ev ta σ H (.ref l)) (hl : SqL K H l zs) (ht : EvA tr σ H vs) (hm : ∀ H1, Ex H H1 → ∀ Q : VK, Q z H1 → m (.ref l) vs H1 Q) : Ev (tBM K "list" m ta tr) σ H z := fun H1 e Q q =>
  ha H1 e _ fun H2 e2 => ⟨.inl ⟨rfl, zs, ex_l (e.trans e2) hl⟩, ht H2 (e.trans e2) _ fun H3 e3 => hm H3 ((e.trans e2).trans e3) Q (q H3 (e2.trans e3))⟩
theorem ev_countB {l : Addr} {bs : List Bool} {k : Bool} {tr : TA} (ha : Ev ta σ H (.ref l)) (hl : SqL K H l (bs.map V.bl)) (ht : EvA tr σ H [.bl k]) : Ev (tBM K "list" (rCountB K) ta tr) σ H (.int ((bs.count k : Nat) : Int)) :=
  ev_bmL ha hl ht fun H1 e _ q => ⟨l, bs, k, rfl, rfl, ex_l e hl, q⟩
theorem ev_indexB {l : Addr} {bs : List Bool} {k : Bool} {n : Nat} {tr : TA} (ha : Ev ta σ H (.ref l)) (hl : SqL K H l (bs.map V.bl)) (ht : EvA tr σ H [.bl k]) (hn : bs[n]? = some k) (hno : ∀ m c, m < n → bs[m]? = some c → c ≠ k) : Ev (tBM K "list" (rIndex K) ta tr) σ H (.int (n : Int)) :=
  ev_bmL ha hl ht fun H1 e _ q => ⟨l, bs.map V.bl, .bl k, n, .bl k, rfl, rfl, ex_l e hl, rfl, List.all_eq_true.mpr fun d hd => by
    obtain ⟨c, _, rfl⟩ := List.mem_map.mp hd
    rfl, by rw [List.getElem?_map, hn]; rfl, by cases k <;> rfl, fun m z' hm hz => by
    rw [List.getElem?_map] at hz
    cases hc : bs[m]? with
    | none => rw [hc] at hz; cases hz
    | some c =>
      rw [hc] at hz
      cases hz
      have := hno m c hm hc
      revert this
      cases c <;> cases k <;> simp [eqV], q⟩
/-- isinstance of an error -/
theorem rc_isx {e D : Addr} {c : V} {w : Value} {k : Bool} (he : H e = some (ErrO (.ref D) e)) (C : ExcC K D) (hc : ClsV c w) (hk : PySem.W.kitOne K (.ref D) w = some k) : RC (rIsX K) [.ref e, c] H (.bl k) := fun H1 ex _ q =>
  ⟨e, D, c, w, k, rfl, ex _ _ he, C, hc, hk, q H1 (Ex.refl H1)⟩
/-- t[i] of a tuple -/
theorem ev_ixT {l : Addr} {zs : List V} {n : Nat} (ha : Ev ta σ H (.ref l)) (hb : Ev tb σ H (.int (n : Int))) (h : H l = some (.tup zs)) (hn : zs[n]? = some v) : Ev (tOp (rIxT K) ta tb) σ H v := ev_op ha hb (rv_ixT (st_of h) (atI_nat hn))
/-- a choice between two new tuples -/
theorem eu_if {c : Bool} {zs : List V} (h : EvT t σ H c) (h1 : c = true → EvU ta σ H zs) (h2 : c = false → EvU tb σ H zs) : EvU (tIf t ta tb) σ H zs := fun H1 e Q q => h H1 e _ fun H2 e2 => by
  cases c with
  | true => exact h1 rfl H2 (e.trans e2) Q fun p H3 hp e3 h3 => q p H3 (fresh_back e2 hp) (e2.trans e3) h3
  | false => exact h2 rfl H2 (e.trans e2) Q fun p H3 hp e3 h3 => q p H3 (fresh_back e2 hp) (e2.trans e3) h3
def SpU (sp : Sp) (vs : List V) (H : Hp) (zs : List V) : Prop := ∀ H1, Ex H H1 → ∀ Q : VK, (∀ p H2, H1 p = none → Ex H1 H2 → H2 p = some (.tup zs) → Q (.ref p) H2) → ∀ E : XK, sp vs H1 Q E
theorem eu_call {sp : Sp} {dvs vs zs : List V} {E : XK} {tr : TA} (h : EvA tr σ H vs) (hs : SpU sp (vs ++ dvs) H zs) : EvU (tCall sp dvs E tr) σ H zs := fun H1 e Q q =>
  h H1 e _ fun H2 e2 => hs H2 (e.trans e2) Q (fun p H3 hp e3 h3 => q p H3 (fresh_back e2 hp) (e2.trans e3) h3) E
def RetU (zs : List V) (H : Hp) (Q : VK) : Prop := ∀ p H2, H p = none → Ex H H2 → H2 p = some (.tup zs) → Q (.ref p) H2
/-- values of which P is known -/
def EvAP (tr : TA) (σ : L2.St) (H : Hp) (P : List V → Hp → Prop) : Prop := ∀ H1, Ex H H1 → ∀ Q : List V → Hp → Prop, (∀ vs H2, Ex H1 H2 → P vs H2 → Q vs H2) → tr σ H1 Q
def Mono {α : Type} (P : α → Hp → Prop) : Prop := ∀ c H1 H2, Ex H1 H2 → P c H1 → P c H2
theorem eap_nil : EvAP tNil σ H (fun vs _ => vs = []) := fun H1 _ _ q => q [] H1 (Ex.refl H1) rfl
theorem eap_cons {tr : TA} {P : List V → Hp → Prop} (h : Ev te σ H x) (hr : EvAP tr σ H P) : EvAP (tCons te tr) σ H (fun vs H' => ∃ us, vs = x :: us ∧ P us H') := fun H1 e _ q =>
  h H1 e _ fun H2 e2 => hr H2 (e.trans e2) _ fun us H3 e3 hp => q _ H3 (e2.trans e3) ⟨us, rfl, hp⟩
theorem eap_consL {tr : TA} {P : List V → Hp → Prop} {zs : List V} (h : EvL te σ H zs) (hr : EvAP tr σ H P) : EvAP (tCons te tr) σ H (fun vs H' => ∃ p us, vs = .ref p :: us ∧ H p = none ∧ H' p = some (.lst zs) ∧ P us H') := fun H1 e _ q =>
  h H1 e _ fun p H2 np e2 hp => hr H2 (e.trans e2) _ fun us H3 e3 hP => q _ H3 (e2.trans e3) ⟨p, us, rfl, fresh_back e np, e3 _ _ hp, hP⟩
theorem ep_lst {tr : TA} {P : List V → Hp → Prop} (h : EvAP tr σ H P) (hm : Mono P) (hl : ∀ vs H', P vs H' → vs.length ≤ 100000) : EvP (tLst tr) σ H (fun v H' => ∃ p vs, v = .ref p ∧ H p = none ∧ H' p = some (.lst vs) ∧ P vs H') := fun H1 e Q q =>
  h H1 e _ fun vs H2 e2 hp => ⟨sz_of (hl _ _ hp), fun p np => q _ _ (e2.trans (Ex.new np)) ⟨p, vs, rfl, fresh_back (e.trans e2) np, upd_same, hm _ _ _ (Ex.new np) hp⟩⟩
theorem mono_nil : Mono (fun (vs : List V) (_ : Hp) => vs = []) := fun _ _ _ _ h => h
theorem mono_cons {P : List V → Hp → Prop} (h : Mono P) : Mono (fun (vs : List V) (H' : Hp) => ∃ us, vs = x :: us ∧ P us H') := fun _ _ _ e ⟨us, h1, h2⟩ => ⟨us, h1, h _ _ _ e h2⟩
theorem mono_consL {P : List V → Hp → Prop} {zs : List V} (h : Mono P) : Mono (fun (vs : List V) (H' : Hp) => ∃ p us, vs = .ref p :: us ∧ H p = none ∧ H' p = some (.lst zs) ∧ P us H') := fun _ _ _ e ⟨p, us, h1, h2, h3, h4⟩ => ⟨p, us, h1, h2, e _ _ h3, h _ _ _ e h4⟩
/-- a list by a comprehension over range(lo, n) -/
theorem el_lcR2A {tr : TA} {k : Nat} {vs : List Nat} {lo n : Int} (g : Nat → V) (h : EvA tr σ H [.int lo, .int n]) (hn : 0 ≤ lo ∧ lo ≤ 40000 ∧ -40000 ≤ n ∧ n ≤ 40000) (hw : ∀ x, wipe ((wipe σ vs).set k (some x)) vs = wipe σ vs)
    (he : ∀ (i : Nat) H1, Ex H H1 → lo + (i : Int) < n → Ev te ((wipe σ vs).set k (some (.int (lo + (i : Int))))) H1 (g i)) :
    EvL (tLc (iRng2 tr) (gName k) tYes te vs) σ H ((List.range (n - lo).toNat).map g) := fun H0 e Q q =>
  h H0 e _ fun H1 e1 => ⟨lo, n, rfl, ⟨by omega, by omega, by omega, by omega⟩, fun Dl hD =>
    lc_range (lo := lo) (n := (n - lo).toNat) (Cw H1 (fun _ => true) g Dl) ⟨hD, Ex.new hD, upd_same⟩ (fun i H2 hi p => ⟨hw _, cw_turn p (by omega) et_yes fun _ => he i H1 (e.trans e1) (by omega)⟩)
      (fun H2 p => q Dl H2 (fresh_back e1 p.1) (e1.trans p.2.1) (by rw [← given_all]; exact p.2.2))⟩
/-- two ways of an if that go on alike are told apart ahead -/
theorem q_else {c : Bool} (h : EvT t σ H c) (h1 : c = true → ∀ H1, Ex H H1 → tu { D with nx := tz D } σ H1) (h2 : c = false → ∀ H1, Ex H H1 → tw { D with nx := tz D } σ H1) : tSeq (tIfS t tu tw) tz D σ H := q_if h h1 h2
end
end XP
namespace ZL
open PySem PySem.Spec PyProof.Rows
/-! ### itertools.zip_longest over two lists -/
theorem zl_mro : mroOf (.type "itertools.zip_longest") = pure [.type "itertools.zip_longest", .type "object"] := by rw [mroOf_type]; kernel_rfl
theorem zl_lookup_new : typeLookup (.type "itertools.zip_longest") "__new__" = pure (some (.builtin "itertools.zip_longest.__new__")) := by
  rw [typeLookup_type, builtinLookup_eq_fast]
  kernel_rfl
theorem zl_sub : isSubtype (.type "itertools.zip_longest") (.type "itertools.zip_longest") = pure true := by rw [isSubtype_type]; kernel_rfl
theorem zl_slot_init : Slot "itertools.zip_longest" "__init__" "object.__init__" :=
  Slot.of (n := "__init__") (owner := "object") (by rw [typeLookup_type, builtinLookup_eq_fast]; kernel_rfl) (by decide +kernel) (by decide +kernel) (by decide +kernel)
    (by first | exact Or.inl (by decide +kernel) | exact Or.inr (by decide +kernel)) (by rw [isSubtype_type]; kernel_rfl)
theorem zl_slot_iter : Slot "itertools.zip_longest" "__iter__" "itertools.zip_longest.__iter__" :=
  Slot.of (n := "__iter__") (owner := "itertools.zip_longest") (by rw [typeLookup_type, builtinLookup_eq_fast]; kernel_rfl) (by decide +kernel) (by decide +kernel) (by decide +kernel)
    (by first | exact Or.inl (by decide +kernel) | exact Or.inr (by decide +kernel)) zl_sub
theorem zl_slot_next : Slot "itertools.zip_longest" "__next__" "itertools.zip_longest.__next__" :=
  Slot.of (n := "__next__") (owner := "itertools.zip_longest") (by rw [typeLookup_type, builtinLookup_eq_fast]; kernel_rfl) (by decide +kernel) (by decide +kernel) (by decide +kernel)
    (by first | exact Or.inl (by decide +kernel) | exact Or.inr (by decide +kernel)) zl_sub
theorem zl_entry_new : entryFor table "itertools.zip_longest.__new__" = some Builtin.«itertools.zip_longest.__new__» := entryFor_of_tree (by kernel_rfl)
theorem zl_entry_next : entryFor table "itertools.zip_longest.__next__" = some Builtin.«itertools.zip_longest.__next__» := entryFor_of_tree (by kernel_rfl)
theorem zl_entry_iter : entryFor table "itertools.zip_longest.__iter__" = some Builtin.«dict_keyiterator.__iter__» :=
  entryFor_alias (id' := "dict_keyiterator.__iter__") (by kernel_rfl) (by first | rfl | decide +kernel | (unfold String.splitOn; simp +decide [String.splitOnAux])) (by decide +kernel) (by kernel_rfl)
theorem zl_called : TypeCalled "itertools.zip_longest" "itertools.zip_longest.__new__" "object.__init__" :=
  ⟨by decide +kernel, by decide +kernel, ⟨_, _, zl_mro⟩, madeBy_type zl_mro zl_lookup_new (by decide +kernel), by decide +kernel, zl_sub, zl_slot_init⟩
theorem zl_typeCall (a b c : Value) : checkTypeCall "itertools.zip_longest" ⟨[a, b], [(Str.ofString "fillvalue", c)]⟩ = pure () := by kernel_rfl
theorem zl_newCall (a b c : Value) : checkBuiltinCall "itertools.zip_longest.__new__" ⟨[.type "itertools.zip_longest", a, b], [(Str.ofString "fillvalue", c)]⟩ = pure () := by kernel_rfl
theorem zl_initArgs (o a b c : Value) : argsOk "object.__init__" ⟨[o, a, b], [(Str.ofString "fillvalue", c)]⟩ := by unfold argsOk; kernel_rfl
theorem zl_owner : Manifest.owners.lookup (String.ofList ['t', 's', 'e', 'g', 'n', 'o', 'l', '_', 'p', 'i', 'z', '.', 's', 'l', 'o', 'o', 't', 'r', 'e', 't', 'i'].reverse) = some Manifest.sig_itertools_zip_longest := by kernel_rfl
theorem zl_args_iter (a : Value) : argsOk "itertools.zip_longest.__iter__" ⟨[a], []⟩ := by
  unfold argsOk
  rw [signature?_of (id := "itertools.zip_longest.__iter__") (o := ['t', 's', 'e', 'g', 'n', 'o', 'l', '_', 'p', 'i', 'z', '.', 's', 'l', 'o', 'o', 't', 'r', 'e', 't', 'i']) (n := ['_', '_', 'r', 'e', 't', 'i', '_', '_']) (by kernel_rfl) zl_owner]
  kernel_rfl
theorem zl_args_next (a : Value) : argsOk "itertools.zip_longest.__next__" ⟨[a], []⟩ := by
  unfold argsOk
  rw [signature?_of (id := "itertools.zip_longest.__next__") (o := ['t', 's', 'e', 'g', 'n', 'o', 'l', '_', 'p', 'i', 'z', '.', 's', 'l', 'o', 'o', 't', 'r', 'e', 't', 'i']) (n := ['_', '_', 't', 'x', 'e', 'n', '_', '_']) (by kernel_rfl) zl_owner]
  kernel_rfl
theorem zl_noDict : typeHasDict (.type "itertools.zip_longest") = false := by decide +kernel
end ZL
namespace ZL
open PySem PySem.Spec PyProof.Rows
abbrev IsZL (h : Heap) (z TI TO : Addr) (f0 d : Value) (run : Int) : Prop :=
  h.get? z = some { cls := .type "itertools.zip_longest", dict := none, data := .fields #[f0, .bool false, d, .int run 0, .ref TI, .ref TO], slots := #[] }
abbrev Tup (h : Heap) (T : Addr) (es : Array Value) : Prop := h.get? T = some { cls := .type "tuple", data := .seq es }
def Fld (h : Heap) (i : Addr) : Prop := ∃ o vs, h.get? i = some o ∧ o.data = .fields vs
section
variable {prog : Program} {w : World} {A : Around} {E : Value → Shared → Prop} {s : Shared}
theorem zl_pool {T : Addr} {es : Array Value} {Q : Array Value → Shared → Prop} (h : Tup s.heap T es) (q : Q es s) : wpAny (model prog w) A (Builtin.Itertools.itPoolItems (.ref T)) Q E s := by
  unfold Builtin.Itertools.itPoolItems
  exact wpAny_bind (wpAny_seqItems h rfl (wpAny_pure q))
theorem zl_run {z TI TO : Addr} {f0 d : Value} {run : Int} {Q : Int → Shared → Prop} (h : IsZL s.heap z TI TO f0 d run) (q : Q run s) : wpAny (model prog w) A (Builtin.Itertools.itIntField (.ref z) 3) Q E s := by
  unfold Builtin.Itertools.itIntField
  exact wpAny_bind (wpAny_field h rfl (x := .int run 0) rfl (wpAny_pure q))
/-- a list's iterator comes to its end: what is left of it -/
theorem zl_end {it l : Addr} {i : Nat} {items : Array Value} {Q : Option Value → Shared → Prop} (hh : A.handled = none) (hit : s.heap.IsListIter it l i) (hl : s.heap.IsList l items) (hx : items[i]? = none)
    (hQ : ∀ h', Heap.ExtBut it s.heap h' → Fld h' it → s.heap.objs.size ≤ h'.objs.size → Q none { s with heap := h' }) : wpAny (model prog w) A (pyNext (.ref it)) Q E s := by
  have hT := hit.typeIs
  obtain ⟨oi, hoi, ci, di⟩ := hit
  obtain ⟨ol, hol, _, nl, dl⟩ := hl
  unfold pyNext
  refine wpAny_bind (wpAny_attempt (wpAny_callSpecial?_slot (name := Str.ofString "__next__") hT slot_listiter_next (wpAny_call_entry slot_listiter_next hT entry_listiter_next ?_ (args_listiter_next _))))
  show wpAny _ _ (field (.ref it) 0 >>= _) _ _ s
  refine wpAny_bind (wpAny_field hoi di (x := .ref l) rfl ?_)
  show wpAny _ _ (if (Value.ref l == Value.none) = true then _ else _) _ _ s
  rw [if_neg (fun e : (Value.ref l == Value.none) = true => Bool.false_ne_true e)]
  show wpAny _ _ (field (.ref it) 1 >>= _) _ _ s
  refine wpAny_bind (wpAny_field hoi di (x := .int i 0) rfl ?_)
  show wpAny _ _ (seqItems? (.ref l) >>= _) _ _ s
  refine wpAny_bind (wpAny_seqItems hol dl ?_)
  simp only [hx, Int.toNat_natCast]
  refine wpAny_bind (wpAny_rule (wpAny_bind (wpAny_setField hoi di (by simp) ?_)))
  show wpAny _ _ (newExc (.type "StopIteration") [] >>= _) _ _ _
  refine wpAny_bind ?_
  simp only [newTuple, newExc]
  refine wpAny_bind (wpAny_newObj_type ?_ (by size_fits))
  refine wpAny_bind (m := firstArgMember _ _) (wpAny_of_eq (a := Value.none) (by (first | rfl | (simp only [firstArgMember]; rfl))) ?_)
  refine wpAny_newObj_type ?_ (by size_fits)
  simp only [raiseNew]
  refine wpAny_bind (wpAny_handled ?_)
  have e1 : A.in1.handled = none := hh
  rw [e1]
  refine wpAny_bind (wpAny_pure (wpAny_throw ?_))
  refine wpAny_bind (wpAny_isInstance (b := true) (T := "StopIteration") ⟨_, Heap.get?_push_size _ rfl, rfl⟩ isSubtype_stop ?_)
  refine wpAny_pure (hQ _ (((Heap.SameBut.update ..).extBut.push _).push _) ⟨_, _, Heap.get?_push_of_some _ (Heap.get?_push_of_some _ (Heap.get?_update_self _ hoi (Obj.isFreed_of_fields (Obj.data_mapFields di _)))), Obj.data_mapFields di _⟩ ?_)
  rw [Heap.size_push, Heap.size_push, Heap.size_update]
  omega
end
/-- how a column is drawn from: it is gone; it has an item; it ends, another one runs; it ends as the last -/
def ColT (prog : Program) (w : World) (A : Around) (t : Sem (Option Value)) (z TI TO i l : Addr) (c : Nat) (d : Value) : Prop :=
  ∀ (k : Nat) (xs es : Array Value) (f0 : Value) (run : Int) (E : Value → Shared → Prop) (s : Shared) (Q : Option Value → Shared → Prop), IsZL s.heap z TI TO f0 d run → Tup s.heap TI es → es.size = 2 →
    (es.getD c .none = .none → Q (some d) s → wpAny (model prog w) A t Q E s) ∧
    (es.getD c .none = .ref i → s.heap.IsListIter i l k → s.heap.IsList l xs →
      (∀ x, xs[k]? = some x → (∀ h', h'.IsListIter i l (k + 1) → Heap.SameBut i s.heap h' → Q (some x) { s with heap := h' }) → wpAny (model prog w) A t Q E s) ∧
      (xs[k]? = none → run ≠ 1 → (∀ h', IsZL h' z TI TO f0 d (run - 1) → Tup h' TI (es.setIfInBounds c .none) → Fld h' i → s.heap.objs.size ≤ h'.objs.size →
        (∀ a o, a ≠ z → a ≠ TI → a ≠ i → s.heap.get? a = some o → h'.get? a = some o) → Q (some d) { s with heap := h' }) → wpAny (model prog w) A t Q E s) ∧
      (xs[k]? = none → run = 1 → (∀ h', IsZL h' z TI TO f0 d 0 → (∀ a o, a ≠ z → a ≠ i → s.heap.get? a = some o → h'.get? a = some o) → Q none { s with heap := h' }) → wpAny (model prog w) A t Q E s))
section
variable {prog : Program} {w : World} {A : Around} {s : Shared}
/-- one column's turn, the last end left out -/
theorem zl_col {t : Sem (Option Value)} {z TI TO i l : Addr} {c k : Nat} {d f0 : Value} {run : Int} {xs es : Array Value} {E : Value → Shared → Prop} {Q : Option Value → Shared → Prop} (C : ColT prog w A t z TI TO i l c d) (hiz : i ≠ z) (hTi : TI ≠ i)
    (hz : IsZL s.heap z TI TO f0 d run) (hT : Tup s.heap TI es) (h2 : es.size = 2) (he : es.getD c .none = if xs.size < k then .none else .ref i) (hi : k ≤ xs.size → s.heap.IsListIter i l k) (hf : Fld s.heap i) (hl : s.heap.IsList l xs) (hr : k = xs.size → run ≠ 1)
    (hQ : ∀ h', IsZL h' z TI TO f0 d (run - if k = xs.size then 1 else 0) → Tup h' TI (if k = xs.size then es.setIfInBounds c .none else es) → (k + 1 ≤ xs.size → h'.IsListIter i l (k + 1)) → Fld h' i → s.heap.objs.size ≤ h'.objs.size →
      (∀ a o, a ≠ z → a ≠ TI → a ≠ i → s.heap.get? a = some o → h'.get? a = some o) → Q (some (xs[k]?.getD d)) { s with heap := h' }) : wpAny (model prog w) A t Q E s := by
  obtain ⟨c1, c2⟩ := C k xs es f0 run E s Q hz hT h2
  rcases Nat.lt_trichotomy k xs.size with a | a | a
  · rw [if_neg (by omega)] at he
    refine (c2 he (hi (by omega)) hl).1 xs[k] (by simp [a]) fun h' hi' sb => ?_
    have e := hQ h'
    rw [if_neg (by omega), if_neg (by omega), Int.sub_zero, Array.getElem?_eq_getElem a] at e
    have hfl : Fld h' i := by
      obtain ⟨o, e1, _, e2⟩ := hi'
      exact ⟨o, _, e1, e2⟩
    exact e ((sb.2 z hiz.symm).trans hz) ((sb.2 TI hTi).trans hT) (fun _ => hi') hfl (Nat.le_of_eq sb.1.symm) fun b o _ _ b3 e => (sb.2 b b3).trans e
  · have hn : xs[k]? = none := by simp [a]
    rw [if_neg (by omega)] at he
    refine (c2 he (hi (by omega)) hl).2.1 hn (hr a) fun h' h1 h2 h3 h4 h5 => ?_
    have e := hQ h'
    rw [if_pos a, if_pos a, hn] at e
    exact e h1 h2 (fun q => absurd q (by omega)) h3 h4 h5
  · have hn : xs[k]? = none := by simp; omega
    rw [if_pos (by omega)] at he
    have e := hQ s.heap
    rw [if_neg (by omega), if_neg (by omega), Int.sub_zero, hn] at e
    exact c1 he (e hz hT (fun q => absurd q (by omega)) hf (Nat.le_refl _) fun _ _ _ _ _ q => q)
end
end ZL
namespace ZL
open PySem PySem.Spec PyProof.Rows
def ent (n k : Nat) (i : Addr) : Value := if n < k then .none else .ref i
def runAt (n m k : Nat) : Int := (if n < k then 0 else 1) + if m < k then 0 else 1
/-- the state ahead of turn k -/
def ZSt (z TI TO i1 i2 l1 l2 : Addr) (d : Value) (n m k : Nat) (f0 : Value) (h : Heap) : Prop :=
  IsZL h z TI TO f0 d (runAt n m k) ∧ Tup h TI #[ent n k i1, ent m k i2] ∧ (∃ x y, Tup h TO #[x, y]) ∧ (k ≤ n → h.IsListIter i1 l1 k) ∧ (k ≤ m → h.IsListIter i2 l2 k) ∧ Fld h i1 ∧ Fld h i2
theorem ent_one {n k : Nat} {i : Addr} {e : Value} : (if k = n then (#[ent n k i, e] : Array Value).setIfInBounds 0 .none else #[ent n k i, e]) = #[ent n (k + 1) i, e] := by
  unfold ent
  by_cases a : k = n
  · rw [if_pos a, if_pos (show n < k + 1 by omega)]
    rfl
  · rw [if_neg a]
    by_cases b : n < k
    · rw [if_pos b, if_pos (show n < k + 1 by omega)]
    · rw [if_neg b, if_neg (show ¬ n < k + 1 by omega)]
theorem ent_two {n k : Nat} {i : Addr} {e : Value} : (if k = n then (#[e, ent n k i] : Array Value).setIfInBounds 1 .none else #[e, ent n k i]) = #[e, ent n (k + 1) i] := by
  unfold ent
  by_cases a : k = n
  · rw [if_pos a, if_pos (show n < k + 1 by omega)]
    rfl
  · rw [if_neg a]
    by_cases b : n < k
    · rw [if_pos b, if_pos (show n < k + 1 by omega)]
    · rw [if_neg b, if_neg (show ¬ n < k + 1 by omega)]
section
variable {prog : Program} {w : World} {A : Around} {E : Value → Shared → Prop} {s : Shared}
theorem zl_put {T : Addr} {es : Array Value} {k : Nat} {x : Value} {Q : Unit → Shared → Prop} (hT : Tup s.heap T es) (h2 : es.size = 2)
    (h : ∀ h', Tup h' T (es.setIfInBounds k x) → Heap.SameBut T s.heap h' → Q () { s with heap := h' }) : wpAny (model prog w) A (updateSeq T (·.setIfInBounds k x)) Q E s := by
  refine wpAny_updateSeq hT rfl (h _ ?_ (Heap.SameBut.update ..)) (by rw [h2]; decide) (by rw [Array.size_setIfInBounds, h2]; decide)
  show (s.heap.update T _).get? T = _
  rw [Heap.get?_update_self _ hT rfl]
  simp [Obj.mapSeq]
theorem Fld.at {h h' : Heap} {i : Addr} (f : Fld h i) (e : ∀ o, h.get? i = some o → h'.get? i = some o) : Fld h' i := by
  obtain ⟨o, vs, a, b⟩ := f
  exact ⟨o, vs, e _ a, b⟩
theorem zl_next {z TI TO i1 i2 l1 l2 : Addr} {k : Nat} {d : Value} {xs ys : Array Value} {Q : Value → Shared → Prop} (hh : A.handled = none) (D : ZipApart z TI TO i1 i2 l1 l2) (hl1T : l1 ≠ TI) (hl2T : l2 ≠ TI)
    (S : ZSt z TI TO i1 i2 l1 l2 d xs.size ys.size k .none s.heap) (hl1 : s.heap.IsList l1 xs) (hl2 : s.heap.IsList l2 ys) (hk : k < xs.size ∨ k < ys.size)
    (hQ : ∀ h' (T : Addr), ZSt z TI TO i1 i2 l1 l2 d xs.size ys.size (k + 1) (rawInt T) h' → Tup h' T #[xs[k]?.getD d, ys[k]?.getD d] → s.heap.objs.size ≤ T →
      (∀ c o, c ≠ z → c ≠ TI → c ≠ TO → c ≠ i1 → c ≠ i2 → s.heap.get? c = some o → h'.get? c = some o) → Q (.ref T) { s with heap := h' }) :
    wpAny (model prog w) A (Builtin.«itertools.zip_longest.__next__» ⟨[.ref z], []⟩) (fun fin s' => ∃ v, fin = .done (.ret v) ∧ Q v s') E s := by
  obtain ⟨hz, hTI, ⟨a, b, hTO⟩, h1, h2, f1, f2⟩ := S
  have hr : ¬ ((runAt xs.size ys.size k == 0) = true) := by
    rw [beq_iff_eq]
    unfold runAt
    split <;> split <;> omega
  show wpAny _ _ (Builtin.Itertools.itIntField (.ref z) 3 >>= _) _ _ _
  refine wpAny_bind (zl_run hz ?_)
  rw [if_neg hr]
  refine wpAny_bind (wpAny_field hz rfl (x := .ref TI) rfl ?_)
  refine wpAny_bind (zl_pool hTI ?_)
  refine wpAny_bind ?_
  unfold Builtin.Itertools.itOwnedIsFree
  refine wpAny_bind (wpAny_field hz rfl (x := .none) rfl (wpAny_pure ?_))
  rw [if_pos rfl]
  refine wpAny_bind (wpAny_rule ?_)
  refine wpAny_bind (wpAny_field hz rfl (x := .ref TO) rfl ?_)
  refine wpAny_bind (wpAny_setField_rec hz (by simp) fun g1 z1 s1 => ?_)
  replace z1 : IsZL g1 z TI TO .ellipsis d (runAt xs.size ys.size k) := z1
  have er : List.range (#[ent xs.size k i1, ent ys.size k i2] : Array Value).size = [0, 1] := rfl
  rw [er]
  refine wpAny_bind ?_
  simp only [List.forIn_cons, List.forIn_nil]
  have x1 := s1.extBut
  refine wpAny_bind (wpAny_bind (wpAny_onRaise (zl_col (c := 0) ?c0 D.i1z D.TIi1 z1 (x1 _ _ D.TIz hTI) rfl rfl (fun q => (h1 q).extBut x1 D.i1z) (f1.at fun o e => x1 _ o D.i1z e) (hl1.extBut x1 D.l1z) (fun q => ?r0) fun g2 z2 t2 a2 b2 n2 k2 => ?_)))
  rotate_left 2
  rw [ent_one] at t2
  refine wpAny_bind (zl_pool (k2 TO _ D.TOz D.TITO.symm D.TOi1 (x1 _ _ D.TOz hTO)) ?_)
  refine wpAny_bind (zl_put (k2 TO _ D.TOz D.TITO.symm D.TOi1 (x1 _ _ D.TOz hTO)) rfl fun g3 t3 s3 => ?_)
  refine wpAny_bind (wpAny_letGo (wpAny_pure ?_))
  have x3 := s3.extBut
  refine wpAny_bind (wpAny_bind (wpAny_onRaise (zl_col (c := 1) ?c1 D.i2z D.TIi2 (x3 _ _ D.TOz.symm z2) (x3 _ _ D.TITO t2) rfl rfl (fun q => (((h2 q).extBut x1 D.i2z).at fun o e => k2 _ o D.i2z D.TIi2.symm D.i12.symm e).extBut x3 D.TOi2.symm)
    (((f2.at fun o e => x1 _ o D.i2z e).at fun o e => k2 _ o D.i2z D.TIi2.symm D.i12.symm e).at fun o e => x3 _ o D.TOi2.symm e) (((hl2.extBut x1 D.l2z).at fun o e => k2 _ o D.l2z hl2T D.l2i1 e).extBut x3 D.l2TO) (fun q => ?r1) fun g4 z4 t4 a4 b4 n4 k4 => ?_)))
  rotate_left 2
  rw [ent_two] at t4
  have t5 := k4 TO _ D.TOz D.TITO.symm D.TOi2 t3
  refine wpAny_bind (zl_pool t5 ?_)
  refine wpAny_bind (zl_put t5 rfl fun g5 t6 s5 => ?_)
  replace t6 : Tup g5 TO #[xs[k]?.getD d, ys[k]?.getD d] := t6
  have x5 := s5.extBut
  refine wpAny_bind (wpAny_letGo (wpAny_pure (wpAny_pure ?_)))
  refine wpAny_bind (zl_pool t6 ?_)
  refine wpAny_bind (wpAny_newTuple ?_)
  have z6 : IsZL (g5.push { cls := .type "tuple", data := .seq #[xs[k]?.getD d, ys[k]?.getD d] }) z TI TO .ellipsis d (runAt xs.size ys.size k - (if k = xs.size then 1 else 0) - if k = ys.size then 1 else 0) := Heap.get?_push_of_some _ (x5 _ _ D.TOz.symm z4)
  have er2 : runAt xs.size ys.size k - (if k = xs.size then 1 else 0) - (if k = ys.size then 1 else 0) = runAt xs.size ys.size (k + 1) := by
    unfold runAt
    repeat' split
    all_goals omega
  rw [er2] at z6
  have hle : s.heap.objs.size ≤ g5.objs.size := by
    have q1 : g1.objs.size = s.heap.objs.size := s1.1
    have q2 : g1.objs.size ≤ g2.objs.size := n2
    have q3 : g3.objs.size = g2.objs.size := s3.1
    have q4 : g3.objs.size ≤ g4.objs.size := n4
    have q5 : g5.objs.size = g4.objs.size := s5.1
    omega
  have hlt : z < g5.objs.size := Heap.lt_size (x5 _ _ D.TOz.symm z4)
  refine wpAny_bind ?_
  unfold Builtin.Itertools.itOwnedHandOut
  refine wpAny_bind (wpAny_setField_rec z6 (by simp) fun g7 z7 s7 => ?_)
  replace z7 : IsZL g7 z TI TO (rawInt g5.objs.size) d (runAt xs.size ys.size (k + 1)) := z7
  refine wpAny_setField_rec z7 (by simp) fun g8 z8 s8 => ?_
  replace z8 : IsZL g8 z TI TO (rawInt g5.objs.size) d (runAt xs.size ys.size (k + 1)) := z8
  have up : ∀ c o, c ≠ z → g5.get? c = some o → g8.get? c = some o := fun c o c1 e => s8.extBut _ _ c1 (s7.extBut _ _ c1 (Heap.get?_push_of_some _ e))
  have hT8 : Tup g8 g5.objs.size #[xs[k]?.getD d, ys[k]?.getD d] := s8.extBut _ _ (Nat.ne_of_gt hlt) (s7.extBut _ _ (Nat.ne_of_gt hlt) (Heap.get?_push_size _ rfl))
  refine wpAny_pure ⟨_, rfl, hQ g8 g5.objs.size ⟨z8, up _ _ D.TIz (x5 _ _ D.TITO t4), ⟨_, _, up _ _ D.TOz t6⟩, fun q => ?i1, fun q => ?i2, ?f1, ?f2⟩ hT8 hle fun c o c1 c2 c3 c4 c5 e => ?main⟩
  case i1 => exact (((a2 q).extBut x3 D.TOi1.symm).at fun o e => x5 _ o D.TOi1.symm (k4 _ o D.i1z D.TIi1.symm D.i12 e)).at fun o e => up _ o D.i1z e
  case i2 => exact ((a4 q).extBut x5 D.TOi2.symm).at fun o e => up _ o D.i2z e
  case f1 => exact b2.at fun o e => up _ o D.i1z (x5 _ o D.TOi1.symm (k4 _ o D.i1z D.TIi1.symm D.i12 (x3 _ o D.TOi1.symm e)))
  case f2 => exact b4.at fun o e => up _ o D.i2z (x5 _ o D.TOi2.symm e)
  case r0 =>
    unfold runAt
    repeat' split
    all_goals omega
  case r1 =>
    unfold runAt
    repeat' split
    all_goals omega
  case main => exact up _ _ c1 (x5 _ _ c3 (k4 _ _ c1 c2 c5 (x3 _ _ c3 (k2 _ _ c1 c2 c4 (x1 _ _ c1 e)))))
  case' c0 =>
    show ColT _ _ _ _ z TI TO i1 l1 0 d
    have hiz := D.i1z
    have hTi := D.TIi1
  case' c1 =>
    show ColT _ _ _ _ z TI TO i2 l2 1 d
    have hiz := D.i2z
    have hTi := D.TIi2
  all_goals
    clear hQ
    intro k xs es f0 run E s Q hz hT hn
    refine ⟨fun e q => ?_, fun e hi hl => ⟨fun x hx q => ?_, fun hx hr q => ?_, fun hx hr q => ?_⟩⟩
    all_goals
      show wpAny _ _ (field (.ref z) 4 >>= _) _ _ s
      refine wpAny_bind (wpAny_field hz rfl (x := .ref TI) rfl ?_)
      refine wpAny_bind (zl_pool hT ?_)
      rw [e]
      refine wpAny_bind (wpAny_field hz rfl (x := d) rfl ?_)
    · rw [if_pos (show (Value.none == Value.none) = true from rfl)]
      exact wpAny_pure q
    all_goals rw [if_neg (fun e : (Value.ref _ == Value.none) = true => Bool.false_ne_true e)]
    · exact wpAny_bind (wpAny_onRaise (wpAny_pyNext_list_item hi hl hx fun h' a1 a2 => wpAny_pure (q h' a1 a2)))
    all_goals
      refine wpAny_bind (wpAny_onRaise (zl_end hh hi hl hx fun h' a1 a2 a3 => ?_))
      refine wpAny_bind (zl_pool (a1 _ _ hTi hT) ?_)
      rw [e, if_neg (fun e : (Value.ref _ == Value.none) = true => Bool.false_ne_true e)]
      refine wpAny_bind (zl_run (a1 _ _ hiz.symm hz) ?_)
      refine wpAny_bind (wpAny_setField_rec (a1 _ _ hiz.symm hz) (by simp) fun h'' b1 b2 => ?_)
      have x2 := b2.extBut
    · rw [if_neg (by rw [beq_iff_eq]; exact hr)]
      refine wpAny_bind (wpAny_rule ?_)
      refine wpAny_bind (zl_put (x2 _ _ D.TIz (a1 _ _ hTi hT)) hn fun h3 c1 c2 => ?_)
      refine wpAny_bind (wpAny_letGo (wpAny_pure ?_))
      have x3 := c2.extBut
      refine q h3 (x3 _ _ D.TIz.symm b1) c1 ((a2.at fun o e => x2 _ o hiz e).at fun o e => x3 _ o hTi.symm e) ?_ fun c o n1 n2 n3 e => x3 _ _ n2 (x2 _ _ n1 (a1 _ _ n3 e))
      have q1 : h''.objs.size = h'.objs.size := b2.1
      have q2 : h3.objs.size = h''.objs.size := c2.1
      omega
    · rw [if_pos (by rw [hr]; rfl)]
      subst hr
      exact wpAny_pure (q h'' b1 fun c o n1 n3 e => x2 _ _ n1 (a1 _ _ n3 e))
/-- its end, once both are through -/
theorem zl_stop {z TI TO i1 i2 l1 l2 : Addr} {k : Nat} {d : Value} {xs ys : Array Value} {Q : PySem.Fin → Shared → Prop} (hh : A.handled = none) (D : ZipApart z TI TO i1 i2 l1 l2) (hl1T : l1 ≠ TI) (hl2T : l2 ≠ TI)
    (S : ZSt z TI TO i1 i2 l1 l2 d xs.size ys.size k .none s.heap) (hl1 : s.heap.IsList l1 xs) (hl2 : s.heap.IsList l2 ys) (hk : (k = xs.size ∧ ys.size ≤ k) ∨ (k = ys.size ∧ xs.size ≤ k))
    (hE : ∀ h' e, (∀ c o, c ≠ z → c ≠ TI → c ≠ TO → c ≠ i1 → c ≠ i2 → s.heap.get? c = some o → h'.get? c = some o) → (∃ o, h'.get? e = some o ∧ o.cls = .type "StopIteration") → E (.ref e) { s with heap := h' }) :
    wpAny (model prog w) A (Builtin.«itertools.zip_longest.__next__» ⟨[.ref z], []⟩) Q E s := by
  obtain ⟨hz, hTI, ⟨a, b, hTO⟩, h1, h2, f1, f2⟩ := S
  have hr : ¬ ((runAt xs.size ys.size k == 0) = true) := by
    rw [beq_iff_eq]
    unfold runAt
    split <;> split <;> omega
  show wpAny _ _ (Builtin.Itertools.itIntField (.ref z) 3 >>= _) _ _ _
  refine wpAny_bind (zl_run hz ?_)
  rw [if_neg hr]
  refine wpAny_bind (wpAny_field hz rfl (x := .ref TI) rfl ?_)
  refine wpAny_bind (zl_pool hTI ?_)
  refine wpAny_bind ?_
  unfold Builtin.Itertools.itOwnedIsFree
  refine wpAny_bind (wpAny_field hz rfl (x := .none) rfl (wpAny_pure ?_))
  rw [if_pos rfl]
  refine wpAny_bind (wpAny_rule ?_)
  refine wpAny_bind (wpAny_field hz rfl (x := .ref TO) rfl ?_)
  refine wpAny_bind (wpAny_setField_rec hz (by simp) fun g1 z1 s1 => ?_)
  replace z1 : IsZL g1 z TI TO .ellipsis d (runAt xs.size ys.size k) := z1
  have er : List.range (#[ent xs.size k i1, ent ys.size k i2] : Array Value).size = [0, 1] := rfl
  rw [er]
  refine wpAny_bind ?_
  simp only [List.forIn_cons, List.forIn_nil]
  have x1 := s1.extBut
  have hend : ∀ (g : Heap) (Q' : Unit → Shared → Prop) (q : ∀ g' e, (∀ c o, g.get? c = some o → g'.get? c = some o) → (∃ o, g'.get? e = some o ∧ o.cls = .type "StopIteration") → E (.ref e) { s with heap := g' }),
      wpAny (model prog w) A (Builtin.Itertools.itStop (α := Unit)) Q' E { s with heap := g } := fun g Q' q => by
    unfold Builtin.Itertools.itStop
    refine wpAny_bind ?_
    simp only [newTuple, newExc]
    refine wpAny_bind (wpAny_newObj_type ?_ (by size_fits))
    refine wpAny_bind (m := firstArgMember _ _) (wpAny_of_eq (a := Value.none) (by (first | rfl | (simp only [firstArgMember]; rfl))) ?_)
    refine wpAny_newObj_type ?_ (by size_fits)
    simp only [raiseNew]
    refine wpAny_bind (wpAny_handled ?_)
    rw [hh]
    refine wpAny_bind (wpAny_pure (wpAny_throw ?_))
    exact q _ _ (fun c o e => Heap.get?_push_of_some _ (Heap.get?_push_of_some _ e)) ⟨_, Heap.get?_push_size _ rfl, rfl⟩
  have he1 : (#[ent xs.size k i1, ent ys.size k i2] : Array Value).getD 0 .none = ent xs.size k i1 := rfl
  by_cases hB : k = xs.size ∧ ys.size < k
  · obtain ⟨b1, b2⟩ := hB
    have c0 : ∀ t, ColT prog w A t z TI TO i1 l1 0 d → ColT prog w A t z TI TO i1 l1 0 d := fun _ q => q
    have er1 : runAt xs.size ys.size k = 1 := by
      unfold runAt
      rw [if_neg (by omega), if_pos b2]
      rfl
    have en : xs[k]? = none := by simp; omega
    refine wpAny_bind (wpAny_bind (wpAny_onRaise (((c0 _ ?c0) k xs _ _ _ _ _ _ z1 (x1 _ _ D.TIz hTI) rfl).2 ?ee ((h1 (by omega)).extBut x1 D.i1z) (hl1.extBut x1 D.l1z) |>.2.2 en er1 fun g2 z2 k2 => ?main)))
    case ee =>
      show ent xs.size k i1 = _
      unfold ent
      rw [if_neg (by omega)]
    case main =>
      refine wpAny_bind (wpAny_setField_rec z2 (by simp) fun g3 z3 s3 => ?_)
      refine wpAny_bind (hend g3 _ fun g4 e kk he => hE _ _ (fun c o n1 n2 n3 n4 n5 q => kk _ _ (s3.extBut _ _ n1 (k2 _ _ n1 n4 (x1 _ _ n1 q)))) he)
    case c0 =>
      show ColT _ _ _ _ z TI TO i1 l1 0 d
      have hiz := D.i1z
      have hTi := D.TIi1
      clear hE
      intro k xs es f0 run E s Q hz hT hn
      refine ⟨fun e q => ?_, fun e hi hl => ⟨fun x hx q => ?_, fun hx hr q => ?_, fun hx hr q => ?_⟩⟩
      all_goals
        show wpAny _ _ (field (.ref z) 4 >>= _) _ _ s
        refine wpAny_bind (wpAny_field hz rfl (x := .ref TI) rfl ?_)
        refine wpAny_bind (zl_pool hT ?_)
        rw [e]
        refine wpAny_bind (wpAny_field hz rfl (x := d) rfl ?_)
      · rw [if_pos (show (Value.none == Value.none) = true from rfl)]
        exact wpAny_pure q
      all_goals rw [if_neg (fun e : (Value.ref _ == Value.none) = true => Bool.false_ne_true e)]
      · exact wpAny_bind (wpAny_onRaise (wpAny_pyNext_list_item hi hl hx fun h' a1 a2 => wpAny_pure (q h' a1 a2)))
      all_goals
        refine wpAny_bind (wpAny_onRaise (zl_end hh hi hl hx fun h' a1 a2 a3 => ?_))
        refine wpAny_bind (zl_pool (a1 _ _ hTi hT) ?_)
        rw [e, if_neg (fun e : (Value.ref _ == Value.none) = true => Bool.false_ne_true e)]
        refine wpAny_bind (zl_run (a1 _ _ hiz.symm hz) ?_)
        refine wpAny_bind (wpAny_setField_rec (a1 _ _ hiz.symm hz) (by simp) fun h'' b1 b2 => ?_)
        have x2 := b2.extBut
      · rw [if_neg (by rw [beq_iff_eq]; exact hr)]
        refine wpAny_bind (wpAny_rule ?_)
        refine wpAny_bind (zl_put (x2 _ _ D.TIz (a1 _ _ hTi hT)) hn fun h3 c1 c2 => ?_)
        refine wpAny_bind (wpAny_letGo (wpAny_pure ?_))
        have x3 := c2.extBut
        refine q h3 (x3 _ _ D.TIz.symm b1) c1 ((a2.at fun o e => x2 _ o hiz e).at fun o e => x3 _ o hTi.symm e) ?_ fun c o n1 n2 n3 e => x3 _ _ n2 (x2 _ _ n1 (a1 _ _ n3 e))
        have q1 : h''.objs.size = h'.objs.size := b2.1
        have q2 : h3.objs.size = h''.objs.size := c2.1
        omega
      · rw [if_pos (by rw [hr]; rfl)]
        subst hr
        exact wpAny_pure (q h'' b1 fun c o n1 n3 e => x2 _ _ n1 (a1 _ _ n3 e))
  · refine wpAny_bind (wpAny_bind (wpAny_onRaise (zl_col (c := 0) ?c0 D.i1z D.TIi1 z1 (x1 _ _ D.TIz hTI) rfl rfl (fun q => (h1 q).extBut x1 D.i1z) (f1.at fun o e => x1 _ o D.i1z e) (hl1.extBut x1 D.l1z) (fun q => ?r0) fun g2 z2 t2 a2 b2 n2 k2 => ?_)))
    rotate_left 2
    · rw [ent_one] at t2
      refine wpAny_bind (zl_pool (k2 TO _ D.TOz D.TITO.symm D.TOi1 (x1 _ _ D.TOz hTO)) ?_)
      refine wpAny_bind (zl_put (k2 TO _ D.TOz D.TITO.symm D.TOi1 (x1 _ _ D.TOz hTO)) rfl fun g3 t3 s3 => ?_)
      refine wpAny_bind (wpAny_letGo (wpAny_pure ?_))
      have x3 := s3.extBut
      have c1 : ∀ t, ColT prog w A t z TI TO i2 l2 1 d → ColT prog w A t z TI TO i2 l2 1 d := fun _ q => q
      have er1 : (runAt xs.size ys.size k - if k = xs.size then 1 else 0) = 1 := by
        unfold runAt
        repeat' split
        all_goals omega
      have en : ys[k]? = none := by simp; omega
      refine wpAny_bind (wpAny_bind (wpAny_onRaise (((c1 _ ?c1) k ys _ _ _ _ _ _ (x3 _ _ D.TOz.symm z2) (x3 _ _ D.TITO t2) rfl).2 ?ee ((((h2 (by omega)).extBut x1 D.i2z).at fun o e => k2 _ o D.i2z D.TIi2.symm D.i12.symm e).extBut x3 D.TOi2.symm)
        (((hl2.extBut x1 D.l2z).at fun o e => k2 _ o D.l2z hl2T D.l2i1 e).extBut x3 D.l2TO) |>.2.2 en er1 fun g4 z4 k4 => ?main)))
      case ee =>
        show ent ys.size k i2 = _
        unfold ent
        rw [if_neg (by omega)]
      case main =>
        refine wpAny_bind (wpAny_setField_rec z4 (by simp) fun g5 z5 s5 => ?_)
        refine wpAny_bind (hend g5 _ fun g6 e kk he => hE _ _ (fun c o n1 n2 n3 n4 n5 q => kk _ _ (s5.extBut _ _ n1 (k4 _ _ n1 n5 (x3 _ _ n3 (k2 _ _ n1 n2 n4 (x1 _ _ n1 q)))))) he)
      case c1 =>
        show ColT _ _ _ _ z TI TO i2 l2 1 d
        have hiz := D.i2z
        have hTi := D.TIi2
        clear hE
        intro k xs es f0 run E s Q hz hT hn
        refine ⟨fun e q => ?_, fun e hi hl => ⟨fun x hx q => ?_, fun hx hr q => ?_, fun hx hr q => ?_⟩⟩
        all_goals
          show wpAny _ _ (field (.ref z) 4 >>= _) _ _ s
          refine wpAny_bind (wpAny_field hz rfl (x := .ref TI) rfl ?_)
          refine wpAny_bind (zl_pool hT ?_)
          rw [e]
          refine wpAny_bind (wpAny_field hz rfl (x := d) rfl ?_)
        · rw [if_pos (show (Value.none == Value.none) = true from rfl)]
          exact wpAny_pure q
        all_goals rw [if_neg (fun e : (Value.ref _ == Value.none) = true => Bool.false_ne_true e)]
        · exact wpAny_bind (wpAny_onRaise (wpAny_pyNext_list_item hi hl hx fun h' a1 a2 => wpAny_pure (q h' a1 a2)))
        all_goals
          refine wpAny_bind (wpAny_onRaise (zl_end hh hi hl hx fun h' a1 a2 a3 => ?_))
          refine wpAny_bind (zl_pool (a1 _ _ hTi hT) ?_)
          rw [e, if_neg (fun e : (Value.ref _ == Value.none) = true => Bool.false_ne_true e)]
          refine wpAny_bind (zl_run (a1 _ _ hiz.symm hz) ?_)
          refine wpAny_bind (wpAny_setField_rec (a1 _ _ hiz.symm hz) (by simp) fun h'' b1 b2 => ?_)
          have x2 := b2.extBut
        · rw [if_neg (by rw [beq_iff_eq]; exact hr)]
          refine wpAny_bind (wpAny_rule ?_)
          refine wpAny_bind (zl_put (x2 _ _ D.TIz (a1 _ _ hTi hT)) hn fun h3 c1 c2 => ?_)
          refine wpAny_bind (wpAny_letGo (wpAny_pure ?_))
          have x3 := c2.extBut
          refine q h3 (x3 _ _ D.TIz.symm b1) c1 ((a2.at fun o e => x2 _ o hiz e).at fun o e => x3 _ o hTi.symm e) ?_ fun c o n1 n2 n3 e => x3 _ _ n2 (x2 _ _ n1 (a1 _ _ n3 e))
          have q1 : h''.objs.size = h'.objs.size := b2.1
          have q2 : h3.objs.size = h''.objs.size := c2.1
          omega
        · rw [if_pos (by rw [hr]; rfl)]
          subst hr
          exact wpAny_pure (q h'' b1 fun c o n1 n3 e => x2 _ _ n1 (a1 _ _ n3 e))
    case r0 =>
      unfold runAt
      repeat' split
      all_goals omega
    case c0 =>
      show ColT _ _ _ _ z TI TO i1 l1 0 d
      have hiz := D.i1z
      have hTi := D.TIi1
      clear hE
      intro k xs es f0 run E s Q hz hT hn
      refine ⟨fun e q => ?_, fun e hi hl => ⟨fun x hx q => ?_, fun hx hr q => ?_, fun hx hr q => ?_⟩⟩
      all_goals
        show wpAny _ _ (field (.ref z) 4 >>= _) _ _ s
        refine wpAny_bind (wpAny_field hz rfl (x := .ref TI) rfl ?_)
        refine wpAny_bind (zl_pool hT ?_)
        rw [e]
        refine wpAny_bind (wpAny_field hz rfl (x := d) rfl ?_)
      · rw [if_pos (show (Value.none == Value.none) = true from rfl)]
        exact wpAny_pure q
      all_goals rw [if_neg (fun e : (Value.ref _ == Value.none) = true => Bool.false_ne_true e)]
      · exact wpAny_bind (wpAny_onRaise (wpAny_pyNext_list_item hi hl hx fun h' a1 a2 => wpAny_pure (q h' a1 a2)))
      all_goals
        refine wpAny_bind (wpAny_onRaise (zl_end hh hi hl hx fun h' a1 a2 a3 => ?_))
        refine wpAny_bind (zl_pool (a1 _ _ hTi hT) ?_)
        rw [e, if_neg (fun e : (Value.ref _ == Value.none) = true => Bool.false_ne_true e)]
        refine wpAny_bind (zl_run (a1 _ _ hiz.symm hz) ?_)
        refine wpAny_bind (wpAny_setField_rec (a1 _ _ hiz.symm hz) (by simp) fun h'' b1 b2 => ?_)
        have x2 := b2.extBut
      · rw [if_neg (by rw [beq_iff_eq]; exact hr)]
        refine wpAny_bind (wpAny_rule ?_)
        refine wpAny_bind (zl_put (x2 _ _ D.TIz (a1 _ _ hTi hT)) hn fun h3 c1 c2 => ?_)
        refine wpAny_bind (wpAny_letGo (wpAny_pure ?_))
        have x3 := c2.extBut
        refine q h3 (x3 _ _ D.TIz.symm b1) c1 ((a2.at fun o e => x2 _ o hiz e).at fun o e => x3 _ o hTi.symm e) ?_ fun c o n1 n2 n3 e => x3 _ _ n2 (x2 _ _ n1 (a1 _ _ n3 e))
        have q1 : h''.objs.size = h'.objs.size := b2.1
        have q2 : h3.objs.size = h''.objs.size := c2.1
        omega
      · rw [if_pos (by rw [hr]; rfl)]
        subst hr
        exact wpAny_pure (q h'' b1 fun c o n1 n3 e => x2 _ _ n1 (a1 _ _ n3 e))
end
end ZL
namespace ZL
open PySem PySem.Spec PyProof.Rows
section
variable {prog : Program} {w : World} {A : Around} {E : Value → Shared → Prop} {s : Shared}
theorem zl_pyNext {z TI TO i1 i2 l1 l2 : Addr} {k : Nat} {d : Value} {xs ys : Array Value} {Q : Option Value → Shared → Prop} (hh : A.handled = none) (D : ZipApart z TI TO i1 i2 l1 l2) (hl1T : l1 ≠ TI) (hl2T : l2 ≠ TI)
    (S : ZSt z TI TO i1 i2 l1 l2 d xs.size ys.size k .none s.heap) (hl1 : s.heap.IsList l1 xs) (hl2 : s.heap.IsList l2 ys) (hk : k < xs.size ∨ k < ys.size)
    (hQ : ∀ h' (T : Addr), ZSt z TI TO i1 i2 l1 l2 d xs.size ys.size (k + 1) (rawInt T) h' → Tup h' T #[xs[k]?.getD d, ys[k]?.getD d] → s.heap.objs.size ≤ T →
      (∀ c o, c ≠ z → c ≠ TI → c ≠ TO → c ≠ i1 → c ≠ i2 → s.heap.get? c = some o → h'.get? c = some o) → Q (some (.ref T)) { s with heap := h' }) :
    wpAny (model prog w) A (pyNext (.ref z)) Q E s := by
  have hT : s.TypeIs (.ref z) "itertools.zip_longest" := ⟨_, S.1, rfl⟩
  have hh1 : A.in1.handled = none := hh
  unfold pyNext
  refine wpAny_bind (wpAny_attempt (wpAny_callSpecial?_slot (name := Str.ofString "__next__") hT zl_slot_next (wpAny_call_entry zl_slot_next hT zl_entry_next ?_ (zl_args_next _))))
  exact zl_next hh1 D hl1T hl2T S hl1 hl2 hk fun h' T a1 a2 a3 a4 => wpAny_pure (hQ h' T a1 a2 a3 a4)
theorem zl_pyStop {z TI TO i1 i2 l1 l2 : Addr} {k : Nat} {d : Value} {xs ys : Array Value} {Q : Option Value → Shared → Prop} (hh : A.handled = none) (D : ZipApart z TI TO i1 i2 l1 l2) (hl1T : l1 ≠ TI) (hl2T : l2 ≠ TI)
    (S : ZSt z TI TO i1 i2 l1 l2 d xs.size ys.size k .none s.heap) (hl1 : s.heap.IsList l1 xs) (hl2 : s.heap.IsList l2 ys) (hk : (k = xs.size ∧ ys.size ≤ k) ∨ (k = ys.size ∧ xs.size ≤ k))
    (hQ : ∀ h', (∀ c o, c ≠ z → c ≠ TI → c ≠ TO → c ≠ i1 → c ≠ i2 → s.heap.get? c = some o → h'.get? c = some o) → Q none { s with heap := h' }) :
    wpAny (model prog w) A (pyNext (.ref z)) Q E s := by
  have hT : s.TypeIs (.ref z) "itertools.zip_longest" := ⟨_, S.1, rfl⟩
  have hh1 : A.in1.handled = none := hh
  unfold pyNext
  refine wpAny_bind (wpAny_attempt (wpAny_callSpecial?_slot (name := Str.ofString "__next__") hT zl_slot_next (wpAny_call_entry zl_slot_next hT zl_entry_next ?_ (zl_args_next _))))
  refine zl_stop hh1 D hl1T hl2T S hl1 hl2 hk fun h' e kk he => ?_
  obtain ⟨o, ho, hc⟩ := he
  exact wpAny_bind (wpAny_isInstance (b := true) (T := "StopIteration") ⟨o, ho, hc⟩ isSubtype_stop (wpAny_pure (hQ _ kk)))
theorem zl_go {elts : List Expr} {x1 : Nat} {pos : Pos} {z TI TO T i1 i2 l1 l2 : Addr} {d : Value} {n m k : Nat} {Q : Unit → Shared → Prop} (D : ZipApart z TI TO i1 i2 l1 l2) (S : ZSt z TI TO i1 i2 l1 l2 d n m k (rawInt T) s.heap)
    (hQ : ∀ h', ZSt z TI TO i1 i2 l1 l2 d n m k .none h' → Heap.SameBut z s.heap h' → Q () { s with heap := h' }) : wpAny (model prog w) A (letOwnedTupleGo (.Tuple elts x1 pos) (.ref z) (.ref T)) Q E s := by
  obtain ⟨hz, hTI, ⟨a, b, hTO⟩, h1, h2, f1, f2⟩ := S
  unfold letOwnedTupleGo
  refine wpAny_bind (wpAny_load hz ?_)
  have e : (["enumerate", "zip", "dict_itemiterator", "dict_reverseitemiterator", "odict_iterator", "itertools.zip_longest", "itertools.pairwise"].contains "itertools.zip_longest" &&
    (#[rawInt T, .bool false, d, .int (runAt n m k) 0, .ref TI, .ref TO] : Array Value)[0]? == some (rawInt T)) = true := by simp
  show wpAny _ _ (if _ = true then _ else _) Q E s
  rw [if_pos e]
  refine wpAny_bind (wpAny_rule ?_)
  show wpAny _ _ (setField (.ref z) 0 .none) Q E s
  refine wpAny_setField_rec hz (by simp) fun h' z' s' => ?_
  have x := s'.extBut
  exact hQ h' ⟨z', x _ _ D.TIz hTI, ⟨a, b, x _ _ D.TOz hTO⟩, fun q => (h1 q).extBut x D.i1z, fun q => (h2 q).extBut x D.i2z, f1.at fun o e => x _ o D.i1z e, f2.at fun o e => x _ o D.i2z e⟩ s'
theorem zl_pyIter {z TI TO : Addr} {f0 d : Value} {run : Int} {Q : Value → Shared → Prop} (hz : IsZL s.heap z TI TO f0 d run) (q : Q (.ref z) s) : wpAny (model prog w) A (pyIter (.ref z)) Q E s := by
  have hT : s.TypeIs (.ref z) "itertools.zip_longest" := ⟨_, hz, rfl⟩
  refine wpAny_pyIter_slot hT zl_slot_iter (wpAny_call_entry zl_slot_iter hT zl_entry_iter ?_ (zl_args_iter _))
  show wpAny _ _ (ret (.ref z)) _ _ s
  exact wpAny_pure ⟨_, rfl, "itertools.zip_longest", _, hT, zl_slot_next.lookup, q⟩
end
abbrev zH1 (h : Heap) (l1 : Addr) : Heap := Heap.push h { cls := .type "list_iterator", data := .fields #[.ref l1, .int 0 0] }
abbrev zH2 (h : Heap) (l1 l2 : Addr) : Heap := Heap.push (zH1 h l1) { cls := .type "list_iterator", data := .fields #[.ref l2, .int 0 0] }
abbrev zH3 (h : Heap) (l1 l2 : Addr) : Heap := Heap.push (zH2 h l1 l2) { cls := .type "tuple", data := .seq #[.ref h.objs.size, .ref (zH1 h l1).objs.size] }
abbrev zH4 (h : Heap) (l1 l2 : Addr) : Heap := Heap.push (zH3 h l1 l2) { cls := .type "tuple", data := .seq #[.none, .none] }
abbrev zH5 (h : Heap) (l1 l2 : Addr) (d : Value) : Heap := Heap.push (zH4 h l1 l2) { cls := .type "itertools.zip_longest", data := .fields #[.none, .bool false, d, .int 2 0, .ref (zH2 h l1 l2).objs.size, .ref (zH3 h l1 l2).objs.size] }
theorem zl_new (l1 l2 : Addr) (xs ys : Array Value) (d : Value) : Meets (Builtin.«itertools.zip_longest.__new__» ⟨[.type "itertools.zip_longest", .ref l1, .ref l2], [(Str.ofString "fillvalue", d)]⟩)
    (fun _ R s => s.heap.IsList l1 xs ∧ s.heap.IsList l2 ys ∧ R (.ok (.ret (.ref (zH4 s.heap l1 l2).objs.size))) { s with heap := zH5 s.heap l1 l2 d }) :=
  .of_wp fun prog w A R s h => by
    obtain ⟨hp, g, dd, tk, os⟩ := s
    obtain ⟨hl1, hl2, h⟩ := h
    have es : ("itertools." ++ "zip_longest" : String) = "itertools.zip_longest" := by decide +kernel
    have hsub : isSubtype (.type "itertools.zip_longest") (.type ("itertools." ++ "zip_longest")) = pure true := by
      rw [es]
      exact zl_sub
    have hnd := zl_noDict
    have e1 : (Str.ofString "fillvalue" == ("fillvalue" : Str)) = true := by decide +kernel
    have hL1 : Heap.IsList (Shared.heap ⟨hp, g, dd, tk, os⟩) l1 xs := hl1
    have hL2 : Heap.IsList (Shared.heap ⟨zH1 hp l1, g, dd, tk, os⟩) l2 ys := Heap.IsList.push hl2 _
    wp_walk using wpAny_pyIter_list hL1, wpAny_pyIter_list hL2
    exact ⟨_, rfl, h⟩
end ZL
namespace ZL
open PySem PySem.Spec PyProof.Rows
section
variable {prog : Program} {w : World} {A : Around} {E : Value → Shared → Prop} {s : Shared}
theorem zl_call {l1 l2 : Addr} {xs ys : Array Value} {d : Value} {Q : Value → Shared → Prop} (hl1 : s.heap.IsList l1 xs) (hl2 : s.heap.IsList l2 ys)
    (h : ∀ h', ZSt (s.heap.objs.size + 4) (s.heap.objs.size + 2) (s.heap.objs.size + 3) s.heap.objs.size (s.heap.objs.size + 1) l1 l2 d xs.size ys.size 0 .none h' → h'.objs.size = s.heap.objs.size + 5 →
      (∀ c o, s.heap.get? c = some o → h'.get? c = some o) → Q (.ref (s.heap.objs.size + 4)) { s with heap := h' }) :
    wpAny (model prog w) A (call (.type "itertools.zip_longest") [.ref l1, .ref l2] [(Str.ofString "fillvalue", d)]) Q E s := by
  refine callType_newKw zl_called (by decide) (zl_typeCall _ _ _) (zl_newCall _ _ _) (fun o => zl_initArgs o _ _ _) zl_entry_new (zl_new l1 l2 xs ys d) ⟨hl1, hl2, ?_⟩
  have y1 : (zH1 s.heap l1).objs.size = s.heap.objs.size + 1 := Heap.size_push ..
  have y2 : (zH2 s.heap l1 l2).objs.size = s.heap.objs.size + 2 := by rw [Heap.size_push, y1]
  have y3 : (zH3 s.heap l1 l2).objs.size = s.heap.objs.size + 3 := by rw [Heap.size_push, y2]
  have y4 : (zH4 s.heap l1 l2).objs.size = s.heap.objs.size + 4 := by rw [Heap.size_push, y3]
  have y5 : (zH5 s.heap l1 l2 d).objs.size = s.heap.objs.size + 5 := by rw [Heap.size_push, y4]
  have u5 : (zH5 s.heap l1 l2 d).get? (zH4 s.heap l1 l2).objs.size = some _ := Heap.get?_push_size _ rfl
  have u4 : (zH5 s.heap l1 l2 d).get? (zH3 s.heap l1 l2).objs.size = some _ := Heap.get?_push_of_some _ (Heap.get?_push_size _ rfl)
  have u3 : (zH5 s.heap l1 l2 d).get? (zH2 s.heap l1 l2).objs.size = some _ := Heap.get?_push_of_some _ (Heap.get?_push_of_some _ (Heap.get?_push_size _ rfl))
  have u2 : (zH5 s.heap l1 l2 d).get? (zH1 s.heap l1).objs.size = some _ := Heap.get?_push_of_some _ (Heap.get?_push_of_some _ (Heap.get?_push_of_some _ (Heap.get?_push_size _ rfl)))
  have u1 : (zH5 s.heap l1 l2 d).get? s.heap.objs.size = some _ := Heap.get?_push_of_some _ (Heap.get?_push_of_some _ (Heap.get?_push_of_some _ (Heap.get?_push_of_some _ (Heap.get?_push_size _ rfl))))
  rw [y2, y3, y4] at u5
  rw [y1, y2] at u3
  rw [y3] at u4
  rw [y1] at u2
  show _ ∧ _
  rw [y4]
  refine ⟨⟨_, u5, rfl⟩, h _ ⟨?_, ?_, ⟨_, _, u4⟩, fun _ => ⟨_, u1, rfl, rfl⟩, fun _ => ⟨_, u2, rfl, rfl⟩, ⟨_, _, u1, rfl⟩, ⟨_, _, u2, rfl⟩⟩ y5 fun c o q =>
    Heap.get?_push_of_some _ (Heap.get?_push_of_some _ (Heap.get?_push_of_some _ (Heap.get?_push_of_some _ (Heap.get?_push_of_some _ q))))⟩
  · have er : runAt xs.size ys.size 0 = 2 := by
      unfold runAt
      rw [if_neg (by omega), if_neg (by omega)]
      rfl
    rw [er]
    exact u5
  · unfold ent
    rw [if_neg (by omega), if_neg (by omega)]
    exact u3
theorem callWith_tyKw {pos : Pos} {T : String} {env : Env} {e : Expr} {rest : List Expr} {kws : List Keyword} {M : Model} {Q : Value → Shared → Prop}
    (h : wpAny M A (spliced (backTo pos (starEach (e :: rest) env))) (fun vs s1 => wpAny M A (evalAll ((backToKw pos (keywordEach kws env)).map (·.2)))
      (fun ks s2 => wpAny M A (call (.type T) vs (((backToKw pos (keywordEach kws env)).filterMap (·.1)).zip ks)) Q E s2) E s1) E s)
    (he : backTo pos (starEach (e :: rest) env) = (false, eval e env) :: backTo pos (starEach rest env) := by rfl) (hp : (backTo pos (starEach (e :: rest) env)).any (·.1) = false := by rfl)
    (hall : (backToKw pos (keywordEach kws env)).all (·.1.isSome) = true := by rfl) (hn : (backToKw pos (keywordEach kws env)).any (·.1.isNone) = false := by rfl) :
    wpAny M A (callWith pos (.type T) [] (backTo pos (starEach (e :: rest) env)) (backToKw pos (keywordEach kws env))) Q E s := by
  have g : wpAny M A (evalArgs (.type T) true (backTo pos (starEach (e :: rest) env)) (backToKw pos (keywordEach kws env))) (fun a s1 => wpAny M A (call (.type T) ([] ++ a.pos) a.kw) Q E s1) E s := by
    rw [he] at h ⊢
    exact evalArgs_kwB hall h
  unfold callWith
  refine wpAny_bind (wpAny_holding (wpAny_mono g (fun a s1 q => wpAny_bind (wpAny_standAt ?_)) fun _ _ q => q))
  simp only [hn, hp, Bool.or_false]
  refine wpAny_bind (wpAny_pure ?_)
  exact wpAny_bind (wpAny_mono q (fun r s2 q2 => wpAny_bind (wpAny_holding (wpAny_point (wpAny_pure q2)))) fun _ _ q => q)
end
end ZL
namespace L2
open PySem PySem.Spec PyProof.Rows ZL
theorem relV_getD {xs : List V} {us : List Value} {d : V} {u : Value} (r : Vals xs us) (rd : RelV d u) (i : Nat) : RelV (xs[i]?.getD d) (us.toArray[i]?.getD u) := by
  cases e : xs[i]? with
  | none =>
    have hn : us.toArray[i]? = none := by
      have hl := r.length
      have := List.getElem?_eq_none_iff.mp e
      simp
      omega
    rw [hn]
    exact rd
  | some x =>
    obtain ⟨v, hv, rv⟩ := r.get e
    have hv' : us.toArray[i]? = some v := by simpa using hv
    rw [hv']
    exact rv
/-- two lists at a and b, as they stand, side by side, d in the place of what is wanting -/
def ItLg (K : PySem.W.Frag) (a b : Addr) (d : V) (n m : Nat) : It where
  go := fun i H => ∃ xs ys : List V, SqL K H a xs ∧ SqL K H b ys ∧ xs.length = n ∧ ys.length = m ∧ (i < n ∨ i < m)
  yld := fun i H v H' => ∃ (T : Addr) (x y : V), v = .ref T ∧ H T = none ∧ H' = upd H T (.tup [x, y]) ∧ (∀ xs, SqL K H a xs → x = xs[i]?.getD d) ∧ ∀ ys, SqL K H b ys → y = ys[i]?.getD d
  stop := fun i H => ∃ xs ys : List V, SqL K H a xs ∧ SqL K H b ys ∧ xs.length = n ∧ ys.length = m ∧ ((i = n ∧ m ≤ i) ∨ (i = m ∧ n ≤ i))
theorem turn_zipL {P : Program} {w : World} {K : PySem.W.Frag} {elts : List Expr} {kk : Nat} {tpos : Pos} {a b z TI TO i1 i2 : Addr} {d : V} {u : Value} {n m : Nat} (D : ZipApart z TI TO i1 i2 a b) (haT : a ≠ TI) (hbT : b ≠ TI) (rd : RelV d u) :
    Turn P w K (.Tuple elts kk tpos) (ItLg K a b d n m) [z, TI, TO, i1, i2] z (fun i h => ZSt z TI TO i1 i2 a b u n m i .none h) where
  mem := by simp
  obj := fun i h st c hc => by
    obtain ⟨hz, hTI, ⟨x, y, hTO⟩, _, _, ⟨o1, v1, e1, d1⟩, o2, v2, e2, d2⟩ := st
    have e' : c = z ∨ c = TI ∨ c = TO ∨ c = i1 ∨ c = i2 := by simpa using hc
    rcases e' with q | q | q | q | q <;> rw [q]
    · exact ⟨_, hz, fun v q => nomatch q⟩
    · exact ⟨_, hTI, fun v q => nomatch q⟩
    · exact ⟨_, hTO, fun v q => nomatch q⟩
    · exact ⟨o1, e1, fun v q => by rw [d1] at q; cases q⟩
    · exact ⟨o2, e2, fun v q => by rw [d2] at q; cases q⟩
  keep := fun i h h' st k => by
    obtain ⟨hz, hTI, ⟨x, y, hTO⟩, h1, h2, f1, f2⟩ := st
    exact ⟨k z (by simp) _ hz, k TI (by simp) _ hTI, ⟨x, y, k TO (by simp) _ hTO⟩, fun q => (h1 q).at fun o e => k i1 (by simp) o e, fun q => (h2 q).at fun o e => k i2 (by simp) o e, f1.at fun o e => k i1 (by simp) o e, f2.at fun o e => k i2 (by simp) o e⟩
  item := by
    intro X hP hw hK hc i pins s σ H E I hf st hg
    subst hP hw hK
    obtain ⟨xs, ys, hqx, hqy, en, em, hk⟩ := hg
    obtain ⟨its, rv, p, _⟩ := I.list hqx
    obtain ⟨its2, rv2, p2, _⟩ := I.list hqy
    have en' : its.toArray.size = n := by
      have := rv.length
      simp
      omega
    have em' : its2.toArray.size = m := by
      have := rv2.length
      simp
      omega
    obtain ⟨hz, hTI, ⟨x0, y0, hTO⟩, h1, h2, ⟨o1, v1, e1, d1⟩, o2, v2, e2, d2⟩ := id st
    have hzl : z < s.heap.objs.size := Heap.lt_size hz
    rw [← en', ← em'] at st hk
    refine zl_pyNext (I.ok.hd hc) D haT hbT st p.isList p2.isList hk fun h' T S' hT hle kp => ?_
    refine ⟨_, rfl, zl_go D S' (s := { s with heap := h' }) fun h'' S2 sb => ?_⟩
    have hTz : T ≠ z := Nat.ne_of_gt (Nat.lt_of_lt_of_le hzl hle)
    have hT2 : h''.get? T = some { cls := .type "tuple", data := .seq #[its.toArray[i]?.getD u, its2.toArray[i]?.getD u] } := (sb.2 _ hTz).trans hT
    have new : ObjOk X.prog X.w (upd H T (.tup [xs[i]?.getD d, ys[i]?.getD d])) h'' T (.tup [xs[i]?.getD d, ys[i]?.getD d]) :=
      ⟨by show 2 ≤ sizeLine; decide, [its.toArray[i]?.getD u, its2.toArray[i]?.getD u], .cons (relV_getD rv rd i) (.cons (relV_getD rv2 rd i) .nil), ⟨_, hT2, rfl, _, rfl⟩⟩
    have I1 : Inv X pins σ (upd H T (.tup [xs[i]?.getD d, ys[i]?.getD d])) { s with heap := h'' } :=
      I.turnedNew (ch := [z, TI, TO, i1, i2]) (t' := s.toks) (fun c o hb q => (sb.2 c (fun e => hb (by simp [e]))).trans (kp c o (fun e => hb (by simp [e])) (fun e => hb (by simp [e])) (fun e => hb (by simp [e])) (fun e => hb (by simp [e])) (fun e => hb (by simp [e])) q)) hf hle new
    rw [en', em'] at S2
    refine ⟨.ref T, _, I1, rfl, ⟨T, _, _, rfl, I.hok.fresh hle, rfl, fun l hl => by rw [I.list_inj hl hqx], fun l hl => by rw [I.list_inj hl hqy]⟩, S2, fun c hcm => ?_⟩
    have hlt : c < s.heap.objs.size := by
      have e' : c = z ∨ c = TI ∨ c = TO ∨ c = i1 ∨ c = i2 := by simpa using hcm
      rcases e' with q | q | q | q | q <;> rw [q]
      · exact hzl
      · exact Heap.lt_size hTI
      · exact Heap.lt_size hTO
      · exact Heap.lt_size e1
      · exact Heap.lt_size e2
    rw [upd_ne (Nat.ne_of_lt (Nat.lt_of_lt_of_le hlt hle))]
    exact (hf c hcm).1
  done := by
    intro X hP hw hK hc i pins s σ H E I hf st hg
    subst hP hw hK
    obtain ⟨xs, ys, hqx, hqy, en, em, hk⟩ := hg
    obtain ⟨its, rv, p, _⟩ := I.list hqx
    obtain ⟨its2, rv2, p2, _⟩ := I.list hqy
    have en' : its.toArray.size = n := by
      have := rv.length
      simp
      omega
    have em' : its2.toArray.size = m := by
      have := rv2.length
      simp
      omega
    rw [← en', ← em'] at st hk
    exact zl_pyStop (I.ok.hd hc) D haT hbT st p.isList p2.isList hk fun h' kp => ⟨rfl, I.turnedL (ch := [z, TI, TO, i1, i2]) (t' := s.toks)
      (fun c o hb q => kp c o (fun e => hb (by simp [e])) (fun e => hb (by simp [e])) (fun e => hb (by simp [e])) (fun e => hb (by simp [e])) (fun e => hb (by simp [e])) q) hf⟩
  self := fun A i s Q E st h => zl_pyIter st.1 h
def iZipL (K : PySem.W.Frag) (ta tk : TA) : TI := fun σ H R => ta σ H fun vs H1 => tk σ H1 fun zs H2 => ∃ (a b : Addr) (xs ys : List V) (d : V), vs = [.ref a, .ref b] ∧ zs = [d] ∧ SqL K H2 a xs ∧ SqL K H2 b ys ∧ R (ItLg K a b d xs.length ys.length) H2
theorem pi_zipL {X : Cx} {e e2 : Expr} {kws : List Keyword} {ta tk : TA} {p pos tpos : Pos} {elts : List Expr} {kk : Nat} (hg : Gl X "zip_longest") (hm : X.mg "zip_longest" = some (.type "itertools.zip_longest")) (ha : PA X [e, e2] ta) (hk : PK X kws tk)
    (he : backTo pos (starEach [e, e2] X.env) = (false, eval e X.env) :: backTo pos (starEach [e2] X.env) := by rfl) (hp : (backTo pos (starEach [e, e2] X.env)).any (·.1) = false := by rfl)
    (hall : (backToKw pos (keywordEach kws X.env)).all (·.1.isSome) = true := by rfl) (hn : (backToKw pos (keywordEach kws X.env)).any (·.1.isNone) = false := by rfl) (hks : (backToKw pos (keywordEach kws X.env)).filterMap (·.1) = [Str.ofString "fillvalue"] := by rfl) :
    PI X (.Tuple elts kk tpos) (.Call (.Name "zip_longest" p) [e, e2] kws pos) (iZipL X.K ta tk) := by
  refine ⟨fun pins s σ H R I h => ?_⟩
  refine wpAny_Call_Name_kw (ld_glob I hg hm ?_)
  refine callWith_tyKw (thn (ha.run pos pins s σ H _ I h) fun us s1 ⟨vs, H1, I1, r1, q1⟩ => thn (hk.run pos pins s1 σ H1 _ I1 q1) fun ws s2 ⟨zs, H2, I2, r2, q2⟩ => ?_) he hp hall hn
  rw [hks]
  obtain ⟨a, b, xs, ys, d, rfl, rfl, hqx, hqy, q⟩ := q2
  cases r1 with
  | cons r rr =>
    cases rr with
    | cons r' rr =>
      cases rr
      cases r
      cases r'
      cases r2 with
      | cons rd rz =>
        cases rz
        obtain ⟨its, rv, p1, _⟩ := I2.list hqx
        obtain ⟨its2, rv2, p2, _⟩ := I2.list hqy
        have la : a < s2.heap.objs.size := p1.lt
        have lb : b < s2.heap.objs.size := p2.lt
        refine zl_call p1.isList p2.isList fun h' S hsz hkp => zl_pyIter S.1 ?_
        have I3 : Inv X pins σ H2 { s2 with heap := h' } := I2.kept (t' := s2.toks) hkp
        have en' : its.toArray.size = xs.length := by
          have := rv.length
          simp
          omega
        have em' : its2.toArray.size = ys.length := by
          have := rv2.length
          simp
          omega
        rw [en', em'] at S
        refine ⟨s2.heap.objs.size + 4, [s2.heap.objs.size + 4, s2.heap.objs.size + 2, s2.heap.objs.size + 3, s2.heap.objs.size, s2.heap.objs.size + 1], _, _, H2, rfl, I3, turn_zipL (PySem.W.ktu_apart s2.heap.objs.size a b la lb) (Nat.ne_of_lt (Nat.lt_of_lt_of_le la (Nat.le_add_right _ _))) (Nat.ne_of_lt (Nat.lt_of_lt_of_le lb (Nat.le_add_right _ _))) rd, S, fun c hcm => ?_, q⟩
        have hle : s2.heap.objs.size ≤ c := by
          have e' : c = s2.heap.objs.size + 4 ∨ c = s2.heap.objs.size + 2 ∨ c = s2.heap.objs.size + 3 ∨ c = s2.heap.objs.size ∨ c = s2.heap.objs.size + 1 := by simpa using hcm
          rcases e' with q | q | q | q | q <;> rw [q]
          all_goals first | exact Nat.le_add_right _ _ | exact Nat.le_refl _
        exact I2.fpOk hle (I2.hok.fresh hle)
end L2
/-! ## enumerate and zip_longest: loops and comprehensions whose target is a pair of names -/
namespace XP
open PySem PySem.Spec PyProof.Rows L2 Evl
abbrev g2n (K : PySem.W.Frag) (j k : Nat) : TG := gTup K 2 (gCons (gName j) (gCons (gName k) gNil))
theorem g2_at {K : PySem.W.Frag} {j k : Nat} {T : Addr} {x y : V} {σ : L2.St} {H : Hp} {Q : L2.St → Hp → Prop} (h : H T = some (.tup [x, y])) (q : Q ((σ.set j (some x)).set k (some y)) H) : g2n K j k (.ref T) σ H Q :=
  ⟨T, [x, y], rfl, st_of h, rfl, x, [y], rfl, y, [], rfl, rfl, q⟩
theorem cw_more {H H' H2 : Hp} {f : Nat → Bool} {v : Nat → V} {Dl : Addr} {i : Nat} (p : Cw H f v Dl i H') (e : Ex H' H2) : Cw H f v Dl i H2 := ⟨p.1, p.2.1.trans e, e _ _ p.2.2⟩
/-- over an iterator of new pairs -/
theorem lc_pair {K : PySem.W.Frag} {J : It} {n j k : Nat} {u v val : Nat → V} {f : Nat → Bool} {t : TT} {te : TE} {vs : List Nat} {σ : L2.St} {H1 : Hp} {Dl : Addr} {Qd : Hp → Prop} (hgo : ∀ i H, i < n → Ex H1 H → J.go i H) (hstop : ∀ H, Ex H1 H → J.stop n H)
    (hy : ∀ i H x H', i < n → Ex H1 H → J.yld i H x H' → ∃ T : Addr, x = .ref T ∧ H T = none ∧ H' = upd H T (.tup [u i, v i])) (hn : n ≤ 40000) (hw : ∀ x y, wipe (((wipe σ vs).set j (some x)).set k (some y)) vs = wipe σ vs)
    (ht : ∀ i H2, i < n → Ex H1 H2 → EvT t (((wipe σ vs).set j (some (u i))).set k (some (v i))) H2 (f i)) (he : ∀ i H2, i < n → Ex H1 H2 → f i = true → Ev te (((wipe σ vs).set j (some (u i))).set k (some (v i))) H2 (val i)) (hD : H1 Dl = none)
    (hd : ∀ H, Cw H1 f val Dl n H → Qd H) : ∃ W : Nat → Nat → Hp → Prop, (∃ m, W 0 m (upd H1 Dl (.lst []))) ∧ ∀ i m H, W i m H →
      (J.stop i H ∧ Qd H) ∨ (J.go i H ∧ ∃ Nx : Hp → Prop, (∀ H', Nx H' → ∃ m', m' < m ∧ W (i + 1) m' H') ∧ ∀ x H', J.yld i H x H' → g2n K j k x (wipe σ vs) H' fun σ2 H2 => wipe σ2 vs = wipe σ vs ∧ t σ2 H2 fun b H3 =>
        if b = true then te σ2 H3 fun y H4 => ∃ acc, H4 Dl = some (.lst acc) ∧ acc.length < sizeLine ∧ Nx (upd H4 Dl (.lst (acc ++ [y]))) else Nx H3) := by
  refine ⟨fun i m H => m = n - i ∧ i ≤ n ∧ Cw H1 f val Dl i H, ⟨n, rfl, Nat.zero_le _, hD, Ex.new hD, upd_same⟩, ?_⟩
  rintro i m H ⟨rfl, hi, p⟩
  by_cases hlt : i < n
  · refine .inr ⟨hgo i H hlt p.2.1, Cw H1 f val Dl (i + 1), fun H' p' => ⟨n - (i + 1), by omega, rfl, hlt, p'⟩, fun x H' y => ?_⟩
    obtain ⟨T, rfl, hT, rfl⟩ := hy i H x H' hlt p.2.1 y
    exact g2_at upd_same ⟨hw _ _, cw_turn (cw_more p (Ex.new hT)) (by omega) (ht i H1 hlt (Ex.refl H1)) (he i H1 hlt (Ex.refl H1))⟩
  · obtain rfl : i = n := by omega
    exact .inl ⟨hstop H p.2.1, hd H p⟩
section
variable {K : PySem.W.Frag} {σ : L2.St} {H : Hp} {ta tb te : TE} {t : TT} {a b : Addr} {xs ys : List V} {d : V} {j k : Nat} {vs : List Nat} {D : Ends} {tu tz : TS}
/-- [.. for x, y in zip_longest(xs, ys, fillvalue=d)] -/
theorem el_lcZ {t1 t2 : TA} (f : Nat → Bool) (val : Nat → V) (h1 : EvA t1 σ H [.ref a, .ref b]) (h2 : EvA t2 σ H [d]) (hx : SqL K H a xs) (hy : SqL K H b ys) (hn : xs.length ≤ 40000 ∧ ys.length ≤ 40000) (hw : ∀ x y, wipe (((wipe σ vs).set j (some x)).set k (some y)) vs = wipe σ vs)
    (ht : ∀ i H2, i < max xs.length ys.length → Ex H H2 → EvT t (((wipe σ vs).set j (some (xs[i]?.getD d))).set k (some (ys[i]?.getD d))) H2 (f i))
    (he : ∀ i H2, i < max xs.length ys.length → Ex H H2 → f i = true → Ev te (((wipe σ vs).set j (some (xs[i]?.getD d))).set k (some (ys[i]?.getD d))) H2 (val i)) :
    EvL (tLc (iZipL K t1 t2) (g2n K j k) t te vs) σ H (given (max xs.length ys.length) f val) := fun H0 e Q q =>
  h1 H0 e _ fun H1 e1 => h2 H1 (e.trans e1) _ fun H2 e2 => by
    have e02 := e.trans (e1.trans e2)
    refine ⟨a, b, xs, ys, d, rfl, rfl, ex_l e02 hx, ex_l e02 hy, fun Dl hD => ?_⟩
    refine lc_pair (n := max xs.length ys.length) (u := fun i => xs[i]?.getD d) (v := fun i => ys[i]?.getD d) (f := f) (val := val) (fun i H3 hi e3 => ⟨xs, ys, ex_l (e02.trans e3) hx, ex_l (e02.trans e3) hy, rfl, rfl, by omega⟩) (fun H3 e3 => ⟨xs, ys, ex_l (e02.trans e3) hx, ex_l (e02.trans e3) hy, rfl, rfl, by omega⟩)
      (fun i H3 x H4 hi e3 y => ?_) (by omega) hw (fun i H3 hi e3 => ht i H3 hi (e02.trans e3)) (fun i H3 hi e3 => he i H3 hi (e02.trans e3)) hD (fun H3 p => q Dl H3 (fresh_back (e1.trans e2) p.1) ((e1.trans e2).trans p.2.1) p.2.2)
    obtain ⟨T, x', y', rfl, hT, rfl, k1, k2⟩ := y
    exact ⟨T, rfl, hT, by rw [k1 xs (ex_l (e02.trans e3) hx), k2 ys (ex_l (e02.trans e3) hy)]⟩
theorem sq_len {K : PySem.W.Frag} {H : Hp} {a : Addr} {xs : List V} : xs.length = xs.length := rfl
/-- [.. for i, x in enumerate(xs)] -/
theorem el_lcE {t1 : TA} (f : Nat → Bool) (val : Nat → V) (h1 : EvA t1 σ H [.ref a]) (hx : SqL K H a xs) (hn : xs.length ≤ 40000) (hw : ∀ x y, wipe (((wipe σ vs).set j (some x)).set k (some y)) vs = wipe σ vs)
    (ht : ∀ i z H2, xs[i]? = some z → Ex H H2 → EvT t (((wipe σ vs).set j (some (.int (i : Nat)))).set k (some z)) H2 (f i))
    (he : ∀ i z H2, xs[i]? = some z → Ex H H2 → f i = true → Ev te (((wipe σ vs).set j (some (.int (i : Nat)))).set k (some z)) H2 (val i)) :
    EvL (tLc (iEnum K t1) (g2n K j k) t te vs) σ H (given xs.length f val) := fun H0 e Q q =>
  h1 H0 e _ fun H1 e1 => by
    have e01 := e.trans e1
    refine ⟨a, xs, rfl, ex_l e01 hx, fun Dl hD => ?_⟩
    have at' : ∀ i, i < xs.length → xs[i]? = some (xs[i]?.getD .non) := fun i hi => by rw [List.getElem?_eq_getElem hi]; rfl
    refine lc_pair (n := xs.length) (u := fun i => .int (i : Nat)) (v := fun i => xs[i]?.getD .non) (f := f) (val := val) (fun i H3 hi e3 => ⟨xs, _, ex_l (e01.trans e3) hx, at' i hi⟩) (fun H3 e3 => ⟨xs, ex_l (e01.trans e3) hx, Nat.le_refl _⟩)
      (fun i H3 x H4 hi e3 y => ?_) hn hw (fun i H3 hi e3 => ht i _ H3 (at' i hi) (e01.trans e3)) (fun i H3 hi e3 => he i _ H3 (at' i hi) (e01.trans e3)) hD (fun H3 p => q Dl H3 (fresh_back e1 p.1) (e1.trans p.2.1) p.2.2)
    obtain ⟨T, x', rfl, hT, rfl, k1⟩ := y
    exact ⟨T, rfl, hT, by rw [k1 xs (ex_l (e01.trans e3) hx)]; rfl⟩
/-- for i, x in enumerate(xs) -/
theorem for_enum {Pv : Nat → L2.St → Hp → Prop} (h0 : Pv 0 σ H) (hl : ∀ i σ' H', i ≤ xs.length → Pv i σ' H' → SqL K H' a xs)
    (hs : ∀ i x T σ' H', xs[i]? = some x → Pv i σ' H' → H' T = none → tu { D with nx := Pv (i + 1), ct := Pv (i + 1), bk := D.nx } ((σ'.set j (some (.int (i : Nat)))).set k (some x)) (upd H' T (.tup [.int (i : Nat), x]))) (hd : ∀ σ' H', Pv xs.length σ' H' → D.nx σ' H') :
    ∃ W : Nat → Nat → L2.St → Hp → Prop, (∃ m, W 0 m σ H) ∧ ∀ i m σ H, W i m σ H →
      ((Ite K a).stop i H ∧ D.nx σ H) ∨ ((Ite K a).go i H ∧ ∃ N : L2.St → Hp → Prop, (∀ σ' H', N σ' H' → ∃ m', m' < m ∧ W (i + 1) m' σ' H') ∧ ∀ x H', (Ite K a).yld i H x H' → g2n K j k x σ H' fun σ2 H2 => tu { D with nx := N, ct := N, bk := D.nx } σ2 H2) := by
  refine ⟨fun i m σ H => m = xs.length - i ∧ i ≤ xs.length ∧ Pv i σ H, ⟨xs.length, rfl, Nat.zero_le _, h0⟩, ?_⟩
  rintro i m σ H ⟨rfl, hi, p⟩
  have q := hl i σ H hi p
  by_cases hlt : i < xs.length
  · refine .inr ⟨⟨xs, xs[i], q, by simp [hlt]⟩, Pv (i + 1), fun σ' H' p' => ⟨xs.length - (i + 1), by omega, rfl, hlt, p'⟩, fun x H' y => ?_⟩
    obtain ⟨T, z, rfl, hT, rfl, k1⟩ := y
    exact g2_at upd_same (hs i z T σ H (k1 xs q) p hT)
  · obtain rfl : i = xs.length := by omega
    exact .inl ⟨⟨xs, q, Nat.le_refl _⟩, hd σ H p⟩
/-- for i, x in enumerate(..), the list new -/
theorem q_forEN {Pv : Addr → Nat → L2.St → Hp → Prop} (h : EvL te σ H xs) (h0 : ∀ p H1, H p = none → Ex H H1 → H1 p = some (.lst xs) → Pv p 0 σ H1) (hl : ∀ p i σ' H', i ≤ xs.length → Pv p i σ' H' → SqL K H' p xs)
    (hs : ∀ p i x σ' H' H2, xs[i]? = some x → Pv p i σ' H' → Ex H' H2 → tu { D with nx := Pv p (i + 1), ct := Pv p (i + 1), bk := tz D } ((σ'.set j (some (.int (i : Nat)))).set k (some x)) H2) (hd : ∀ p σ' H', Pv p xs.length σ' H' → tz D σ' H') :
    tSeq (tFor (iEnum K (tCons te tNil)) (g2n K j k) tu) tz D σ H := h H (Ex.refl H) _ fun p H1 hp e h1 =>
  ⟨p, xs, rfl, sq_of h1, for_enum (D := { D with nx := tz D }) (Pv := Pv p) (h0 p H1 hp e h1) (hl p) (fun i x T σ' H' hx pv hT => hs p i x σ' H' _ hx pv (Ex.new hT)) (hd p)⟩
end
end XP
/-! ## Lists of lists, tuples of a text and a plain value; more words -/
namespace XP
open PySem PySem.Spec PyProof.Rows L2 Evl
def ldat (xs : List Int) : PyData := .list (xs.map PyData.int)
theorem ldat_depths : ∀ xss : List (List Int), PyData.depthAll (xss.map ldat) ≤ 1
  | [] => by simp [PyData.depthAll]
  | xs :: r => by
    have ih := ldat_depths r
    simp only [List.map_cons, PyData.depthAll, ldat, PyData.depth, PySem.W.ke_depthAll]
    omega
theorem ldat_lays : ∀ xss : List (List Int), PyData.canLayAll0 (xss.map ldat) = true
  | [] => by simp [PyData.canLayAll0]
  | xs :: r => by simp [PyData.canLayAll0, PyData.canLay0, ldat, PySem.W.ke_canLayAll0, ldat_lays r]
theorem shaped_lls (xss : List (List Int)) : SeqAt.shaped (.list (xss.map ldat)) = true := by
  have h := ldat_depths xss
  have h2 := ldat_lays xss
  simp only [SeqAt.shaped, PyData.canLay0, PyData.depth, h2, Bool.true_and, decide_eq_true_eq]
  exact decide_eq_true (Nat.le_trans (Nat.succ_le_succ h) (show 2 ≤ 64 by decide))
theorem eqvAll_lls : ∀ xss yss : List (List Int), PyData.eqvAll (xss.map ldat) (yss.map ldat) = decide (xss = yss)
  | [], [] => by simp [PyData.eqvAll]
  | [], _ :: _ => by simp [PyData.eqvAll]
  | _ :: _, [] => by simp [PyData.eqvAll]
  | xs :: r, ys :: t => by
    show (PyData.eqv (ldat xs) (ldat ys) && PyData.eqvAll (r.map ldat) (t.map ldat)) = _
    rw [eqvAll_lls r t]
    unfold ldat
    rw [eqv_ints, Bool.eq_iff_iff]
    simp
theorem eqv_lls (xss yss : List (List Int)) : PyData.eqv (.list (xss.map ldat)) (.list (yss.map ldat)) = decide (xss = yss) := by
  simp only [PyData.eqv]
  exact eqvAll_lls xss yss
/-- lists of whole numbers stand at the places zs -/
inductive Lls (H : Hp) : List V → List (List Int) → Prop
  | nil : Lls H [] []
  | cons {p : Addr} {xs : List Int} {zs : List V} {xss : List (List Int)} : Ll H p xs → Lls H zs xss → Lls H (.ref p :: zs) (xs :: xss)
theorem Lls.mono {H H' : Hp} (e : Ex H H') : ∀ {zs : List V} {xss : List (List Int)}, Lls H zs xss → Lls H' zs xss
  | _, _, .nil => .nil
  | _, _, .cons h r => .cons (e _ _ h) (r.mono e)
theorem Lls.dp {K : PySem.W.Frag} {H : Hp} : ∀ {zs : List V} {xss : List (List Int)}, Lls H zs xss → DpAll K H zs (xss.map ldat)
  | _, _, .nil => .nil
  | _, _, .cons h r => .cons (dp_ints h.sq) r.dp
theorem Lls.len {H : Hp} : ∀ {zs : List V} {xss : List (List Int)}, Lls H zs xss → zs.length = xss.length
  | _, _, .nil => rfl
  | _, _, .cons _ r => congrArg (· + 1) r.len
/-- a plain value -/
def scD : V → Option PyData
  | .non => some .none
  | .bl b => some (.bool b)
  | .int i => some (.int i)
  | _ => none
theorem sc_dp {K : PySem.W.Frag} {H : Hp} {x : V} {d : PyData} (h : scD x = some d) : Dp K H x d := by
  cases x <;> cases h
  all_goals first | exact .non | exact .bl _ | exact .int _
theorem sc_ok {x : V} {d : PyData} (h : scD x = some d) : PyData.canLay0 d = true ∧ PyData.depth d = 0 ∧ PyData.eqv d d = true := by
  cases x <;> cases h <;> simp [PyData.canLay0, PyData.depth, PyData.eqv]
section
variable {K : PySem.W.Frag} {σ : L2.St} {H H' : Hp} {ta tb te : TE} {t : TT} {x y z v : V} {r : R2} {a b p : Addr} {D : Ends} {tz : TS}
theorem rv_neLL {zs ws : List V} {xss yss : List (List Int)} (h1 : SqL K H a zs) (h2 : Lls H zs xss) (h3 : SqL K H b ws) (h4 : Lls H ws yss) : RV (rNeD K) (.ref a) (.ref b) H (.bl (!decide (xss = yss))) := fun H1 e Q q =>
  ⟨_, _, .lst (ex_l e h1) (h2.mono e).dp, .lst (ex_l e h3) (h4.mono e).dp, shaped_lls xss, shaped_lls yss, by rw [eqv_lls]; exact q H1 (Ex.refl H1)⟩
theorem rv_eqLL {zs ws : List V} {xss yss : List (List Int)} (h1 : SqL K H a zs) (h2 : Lls H zs xss) (h3 : SqL K H b ws) (h4 : Lls H ws yss) : RV (rEqD K) (.ref a) (.ref b) H (.bl (decide (xss = yss))) := fun H1 e Q q =>
  ⟨_, _, .lst (ex_l e h1) (h2.mono e).dp, .lst (ex_l e h3) (h4.mono e).dp, shaped_lls xss, shaped_lls yss, by rw [eqv_lls]; exact q H1 (Ex.refl H1)⟩
/-- (text, plain value) against its like -/
theorem rv_neTV {t u : Addr} {s : Str} {d : PyData} (h1 : H t = some (.tup [.str s, x])) (h2 : H u = some (.tup [.str s, x])) (hs : PyData.strOk s = true) (hx : scD x = some d) : RV (rNeD K) (.ref t) (.ref u) H (.bl false) := fun H1 e Q q => by
  obtain ⟨k1, k2, k3⟩ := sc_ok hx
  have sh : SeqAt.shaped (.tuple [.str s, d]) = true := by
    unfold SeqAt.shaped
    simp [PyData.canLay0, PyData.canLayAll0, PyData.depth, PyData.depthAll, hs, k1, k2]
  have eq1 : PyData.eqv (.tuple [.str s, d]) (.tuple [.str s, d]) = true := by simp [PyData.eqv, PyData.eqvAll, k3]
  refine ⟨.tuple [.str s, d], .tuple [.str s, d], .tup (st_of (e _ _ h1)) (.cons (.str s) (.cons (sc_dp hx) .nil)), .tup (st_of (e _ _ h2)) (.cons (.str s) (.cons (sc_dp hx) .nil)), sh, sh, ?_⟩
  rw [eq1]
  exact q H1 (Ex.refl H1)
/-- the second operand by what is known of it -/
theorem ev_opP {P : V → Hp → Prop} (ha : Ev ta σ H x) (hb : EvP tb σ H P) (hr : ∀ w H1, Ex H H1 → P w H1 → RV r x w H1 z) : Ev (tOp r ta tb) σ H z := fun H1 e Q q =>
  ha H1 e _ fun H2 e2 => hb H2 (e.trans e2) _ fun w H3 e3 p => hr w H3 ((e.trans e2).trans e3) p H3 (Ex.refl H3) Q fun H4 e4 => q H4 ((e2.trans e3).trans e4)
/-- a choice between two new lists of the same items -/
theorem el_if {c : Bool} {zs : List V} (h : EvT t σ H c) (h1 : c = true → EvL ta σ H zs) (h2 : c = false → EvL tb σ H zs) : EvL (tIf t ta tb) σ H zs := fun H1 e Q q => h H1 e _ fun H2 e2 => by
  cases c with
  | true => exact h1 rfl H2 (e.trans e2) Q fun p H3 hp e3 h3 => q p H3 (fresh_back e2 hp) (e2.trans e3) h3
  | false => exact h2 rfl H2 (e.trans e2) Q fun p H3 hp e3 h3 => q p H3 (fresh_back e2 hp) (e2.trans e3) h3
theorem eap_consU {tr : TA} {P : List V → Hp → Prop} {zs : List V} (h : EvU te σ H zs) (hr : EvAP tr σ H P) : EvAP (tCons te tr) σ H (fun vs H' => ∃ p us, vs = .ref p :: us ∧ H p = none ∧ H' p = some (.tup zs) ∧ P us H') := fun H1 e _ q =>
  h H1 e _ fun p H2 np e2 hp => hr H2 (e.trans e2) _ fun us H3 e3 hP => q _ H3 (e2.trans e3) ⟨p, us, rfl, fresh_back e np, e3 _ _ hp, hP⟩
theorem mono_consU {P : List V → Hp → Prop} {zs : List V} (h : Mono P) : Mono (fun (vs : List V) (H' : Hp) => ∃ p us, vs = .ref p :: us ∧ H p = none ∧ H' p = some (.tup zs) ∧ P us H') := fun _ _ _ e ⟨p, us, h1, h2, h3, h4⟩ => ⟨p, us, h1, h2, e _ _ h3, h _ _ _ e h4⟩
/-- x, y = what a call hands back -/
theorem q_asg2 {j k : Nat} {P : V → Hp → Prop} (h : EvP te σ H P) (hk : ∀ v H1, Ex H H1 → P v H1 → ∃ (T : Addr) (x y : V), v = .ref T ∧ H1 T = some (.tup [x, y]) ∧ tz D ((σ.set j (some x)).set k (some y)) H1) : tSeq (tAsg te (g2n K j k)) tz D σ H :=
  h H (Ex.refl H) _ fun v H1 e p => by
    obtain ⟨T, x, y, rfl, ht, q⟩ := hk v H1 e p
    exact g2_at ht q
theorem cut_upto (zs : List V) (k : Nat) : cutV zs none (some (k : Int)) = zs.take k := by
  unfold cutV
  rw [HT.sIx_none, HT.sIx_nat, List.drop_zero, Nat.sub_zero]
  by_cases h : k ≤ zs.length
  · rw [Nat.min_eq_left h]
  · rw [Nat.min_eq_right (by omega), List.take_length, List.take_of_length_le (by omega)]
theorem cut_butLast (zs : List V) : cutV zs none (some (-1)) = zs.dropLast := by
  unfold cutV
  rw [HT.sIx_none, List.drop_zero, Nat.sub_zero, List.dropLast_eq_take]
  have e : HT.sIx zs.length zs.length (some (-1)) = zs.length - 1 := by
    show (if (-1 : Int) < 0 then ((-1 : Int) + (zs.length : Int)).toNat else min (-1 : Int).toNat zs.length) = zs.length - 1
    rw [if_pos (by decide)]
    omega
  rw [e]
end
section
variable {K : PySem.W.Frag} {σ : L2.St} {H : Hp} {tl : TE} {g : TG} {tu tz : TS} {D : Ends}
/-- over a list of which something is known -/
theorem q_forLP {P : V → Hp → Prop} (h : EvP tl σ H P) (hk : ∀ v H1, Ex H H1 → P v H1 → ∃ (p : Addr) (zs : List V) (Pv : Nat → L2.St → Hp → Prop), v = .ref p ∧ H1 p = some (.lst zs) ∧ Pv 0 σ H1 ∧ (∀ i σ' H', i ≤ zs.length → Pv i σ' H' → SqL K H' p zs) ∧
    (∀ i x σ' H', zs[i]? = some x → Pv i σ' H' → g x σ' H' fun σ2 H2 => tu { D with nx := Pv (i + 1), ct := Pv (i + 1), bk := tz D } σ2 H2) ∧ ∀ σ' H', Pv zs.length σ' H' → tz D σ' H') : tSeq (tFor (iList K tl) g tu) tz D σ H :=
  h H (Ex.refl H) _ fun v H1 e p => by
    obtain ⟨a, zs, Pv, rfl, hz, h0, hl, hs, hd⟩ := hk v H1 e p
    exact ⟨a, rfl, ⟨zs, sq_of hz⟩, for_list (D := { D with nx := tz D }) Pv h0 hl hs hd⟩
end
end XP
/-! ## enumerate of a new list; appending what is known of; lists of new lists -/
namespace XP
open PySem PySem.Spec PyProof.Rows L2 Evl
section
variable {K : PySem.W.Frag} {σ : L2.St} {H H' : Hp} {ta tb te tl : TE} {t : TT} {xs ys : List V} {j k : Nat} {vs : List Nat} {D : Ends} {tu tz : TS}
theorem el_lcEN (f : Nat → Bool) (val : Nat → V) (h : EvL tl σ H xs) (hn : xs.length ≤ 40000) (hw : ∀ x y, wipe (((wipe σ vs).set j (some x)).set k (some y)) vs = wipe σ vs)
    (ht : ∀ i z H2, xs[i]? = some z → Ex H H2 → EvT t (((wipe σ vs).set j (some (.int (i : Nat)))).set k (some z)) H2 (f i))
    (he : ∀ i z H2, xs[i]? = some z → Ex H H2 → f i = true → Ev te (((wipe σ vs).set j (some (.int (i : Nat)))).set k (some z)) H2 (val i)) :
    EvL (tLc (iEnum K (tCons tl tNil)) (g2n K j k) t te vs) σ H (given xs.length f val) := fun H0 e Q q =>
  h H0 e _ fun a H1 _ e1 ha => by
    have e01 := e.trans e1
    have hx : SqL K H1 a xs := sq_of ha
    refine ⟨a, xs, rfl, hx, fun Dl hD => ?_⟩
    have at' : ∀ i, i < xs.length → xs[i]? = some (xs[i]?.getD .non) := fun i hi => by rw [List.getElem?_eq_getElem hi]; rfl
    refine lc_pair (n := xs.length) (u := fun i => .int (i : Nat)) (v := fun i => xs[i]?.getD .non) (f := f) (val := val) (fun i H3 hi e3 => ⟨xs, _, ex_l e3 hx, at' i hi⟩) (fun H3 e3 => ⟨xs, ex_l e3 hx, Nat.le_refl _⟩)
      (fun i H3 x H4 hi e3 y => ?_) hn hw (fun i H3 hi e3 => ht i _ H3 (at' i hi) (e01.trans e3)) (fun i H3 hi e3 => he i _ H3 (at' i hi) (e01.trans e3)) hD (fun H3 p => q Dl H3 (fresh_back e1 p.1) (e1.trans p.2.1) p.2.2)
    obtain ⟨T, x', rfl, hT, rfl, k1⟩ := y
    exact ⟨T, rfl, hT, by rw [k1 xs (ex_l e3 hx)]; rfl⟩
/-- xs.append(e), of e something known -/
theorem s_appP {l : Addr} {zs : List V} {P : V → Hp → Prop} (hl : H l = some (.lst zs)) (ha : Ev ta σ H (.ref l)) (h : EvP te σ H P) (hz : zs.length < 100000) (hk : ∀ v H1, Ex H H1 → P v H1 → D.nx σ (upd H1 l (.lst (zs ++ [v])))) :
    tDrop (tBM K "list" rAppend ta (tCons te tNil)) D σ H := ha H (Ex.refl H) _ fun H1 e1 =>
  ⟨Or.inl ⟨rfl, zs, sq_of (e1 l _ hl)⟩, h H1 e1 _ fun v H2 e2 p => ⟨l, zs, v, rfl, rfl, e2 l _ (e1 l _ hl), sz_lt hz, hk v H2 (e1.trans e2) p⟩⟩
theorem Lls.upd {p : Addr} {o : HO} : ∀ {zs : List V} {xss : List (List Int)}, Lls H zs xss → (∀ z ∈ zs, z ≠ .ref p) → Lls (upd H p o) zs xss
  | _, _, .nil, _ => .nil
  | _, _, .cons (p := q) h r, hz => .cons ((upd_ne fun e => hz _ List.mem_cons_self (by rw [e])).trans h) (r.upd fun z hm => hz z (List.mem_cons_of_mem _ hm))
theorem Lls.snoc {q : Addr} {ns : List Int} (h : Ll H q ns) : ∀ {zs : List V} {xss : List (List Int)}, Lls H zs xss → Lls H (zs ++ [.ref q]) (xss ++ [ns])
  | _, _, .nil => .cons h .nil
  | _, _, .cons h' r => .cons h' (r.snoc h)
theorem Lls.get : ∀ {zs : List V} {xss : List (List Int)} {k : Nat} {x : List Int}, Lls H zs xss → xss[k]? = some x → ∃ q, zs[k]? = some (.ref q) ∧ Ll H q x
  | _, _, 0, _, .cons h _, e => by cases e; exact ⟨_, rfl, h⟩
  | _, _, k + 1, _, .cons _ r, e => r.get (k := k) e
theorem Lls.at {zs : List V} {xss : List (List Int)} {k : Nat} {z : V} (h : Lls H zs xss) (e : zs[k]? = some z) : ∃ (q : Addr) (x : List Int), z = .ref q ∧ xss[k]? = some x ∧ Ll H q x := by
  have hk : k < xss.length := by
    rw [← h.len]
    exact (List.getElem?_eq_some_iff.mp e).1
  obtain ⟨q, h1, h2⟩ := h.get (List.getElem?_eq_getElem hk)
  rw [h1] at e
  cases e
  exact ⟨q, _, rfl, List.getElem?_eq_getElem hk, h2⟩
theorem EvL.p {zs : List V} (h : EvL te σ H zs) : EvP te σ H (fun v H1 => ∃ p : Addr, v = .ref p ∧ H p = none ∧ H1 p = some (.lst zs)) := fun H1 e Q q => h H1 e Q fun p H2 np e2 hp => q _ _ e2 ⟨p, rfl, fresh_back e np, hp⟩
end
section
variable {K : PySem.W.Frag} {σ : L2.St} {H H' : Hp} {ta tb te tl : TE} {t : TT} {xs ys : List V} {a : Addr} {j k : Nat} {vs : List Nat} {D : Ends} {tu tz : TS}
theorem Lls.ne {q : Addr} (hq : H q = none) : ∀ {zs : List V} {xss : List (List Int)}, Lls H zs xss → ∀ z ∈ zs, z ≠ .ref q
  | _, _, .nil, _, hz => by cases hz
  | _, _, .cons (p := p) h r, z, hz => by
    rcases List.mem_cons.mp hz with e | hz
    · rw [e]
      intro e2
      cases e2
      have h' : H q = _ := h
      rw [hq] at h'
      cases h'
    · exact r.ne hq z hz
/-- [a new list for x in xs] -/
theorem el_lcLL (g : Nat → List Int) (h : Ev tl σ H (.ref a)) (hx : SqL K H a xs) (hn : xs.length ≤ 40000) (hw : ∀ x, wipe ((wipe σ vs).set k (some x)) vs = wipe σ vs)
    (he : ∀ i x H2, xs[i]? = some x → Ex H H2 → EvL te ((wipe σ vs).set k (some x)) H2 ((g i).map V.int)) :
    EvP (tLc (iList K tl) (gName k) tYes te vs) σ H (fun v H' => ∃ (Dl : Addr) (zs : List V), v = .ref Dl ∧ H Dl = none ∧ H' Dl = some (.lst zs) ∧ Lls H' zs ((List.range xs.length).map g) ∧ ∀ z ∈ zs, ∃ q : Addr, z = .ref q ∧ H q = none) := fun H0 e Q q =>
  h H0 e _ fun H1 e1 => by
    have e01 := e.trans e1
    refine ⟨a, rfl, ⟨xs, ex_l e01 hx⟩, fun Dl hD => ?_⟩
    refine lc_list (xs := xs) (fun i H' => Ex H1 H' ∧ ∃ zs : List V, H' Dl = some (.lst zs) ∧ Lls H' zs ((List.range i).map g) ∧ ∀ z ∈ zs, z ≠ .ref Dl ∧ ∃ q : Addr, z = .ref q ∧ H1 q = none) ⟨Ex.new hD, [], upd_same, .nil, fun z hz => by cases hz⟩
      (fun i H' _ p => ex_l (e01.trans p.1) hx) (fun i x H' hi p => ⟨hw x, ?_⟩) (fun H' p => ?_)
    · obtain ⟨eH, zs, hDl, hL, hz⟩ := p
      have hlt := lt_of_get hi
      refine et_yes H' (Ex.refl H') _ fun H3 e3 => ?_
      show te _ H3 _
      refine he i x H3 hi (e01.trans (eH.trans e3)) H3 (Ex.refl H3) _ fun r H4 nr e4 hr => ?_
      have hD4 := (e3.trans e4) _ _ hDl
      have hrD : r ≠ Dl := fun z => by
        have := e3 _ _ hDl
        rw [← z, nr] at this
        cases this
      have ll := hL.len
      rw [List.length_map, List.length_range] at ll
      refine ⟨zs, hD4, sz_lt (by omega), ((eH.trans e3).trans e4).mut hD, zs ++ [.ref r], upd_same, ?_, fun z hm => ?_⟩
      · rw [List.range_succ, List.map_append]
        exact ((hL.mono (e3.trans e4)).snoc hr).upd fun y hy => by
          rcases List.mem_append.mp hy with hy | hy
          · exact (hz y hy).1
          · rw [List.mem_singleton.mp hy]
            exact fun e => hrD (by cases e; rfl)
      · rcases List.mem_append.mp hm with hm | hm
        · exact hz z hm
        · rw [List.mem_singleton.mp hm]
          exact ⟨fun e => hrD (by cases e; rfl), r, rfl, fresh_back (eH.trans e3) nr⟩
    · obtain ⟨eH, zs, hDl, hL, hz⟩ := p
      exact q _ _ (e1.trans eH) ⟨Dl, zs, rfl, fresh_back e01 hD, hDl, hL, fun z hm => by
        obtain ⟨q', e1', e2'⟩ := (hz z hm).2
        exact ⟨q', e1', fresh_back e01 e2'⟩⟩
/-- a call whose first argument is a new list -/
theorem el_callL3 {sp : Sp} {E : XK} {zs ws : List V} {tr : TA} {us : List V} (h : EvL te σ H zs) (hb : ∀ H1, Ex H H1 → EvA tr σ H1 us) (hs : ∀ p H1, Ex H H1 → H1 p = some (.lst zs) → SpL sp (.ref p :: us) H1 ws) : EvL (tCall sp [] E (tCons te tr)) σ H ws := fun H1 e Q q =>
  h H1 e _ fun p H2 _ e2 hp => hb H2 (e.trans e2) H2 (Ex.refl H2) _ fun H3 e3 => by
    have := hs p H3 ((e.trans e2).trans e3) (e3 _ _ hp) H3 (Ex.refl H3) Q (fun r H4 nr e4 hr => q r H4 (fresh_back (e2.trans e3) nr) ((e2.trans e3).trans e4) hr) E
    show sp ((V.ref p :: us) ++ []) H3 Q E
    rw [List.append_nil]
    exact this
end
/-! evaluation after which only an older heap is known to stand -/
def Ev0 (H0 : Hp) (te : TE) (σ : L2.St) (H : Hp) (v : V) : Prop := ∀ H1, Ex H H1 → ∀ Q : VK, (∀ H2, Ex H0 H2 → Q v H2) → te σ H1 Q
def EvT0 (H0 : Hp) (t : TT) (σ : L2.St) (H : Hp) (b : Bool) : Prop := ∀ H1, Ex H H1 → ∀ Q : Bool → Hp → Prop, (∀ H2, Ex H0 H2 → Q b H2) → t σ H1 Q
section
variable {K : PySem.W.Frag} {σ : L2.St} {H H' H0 : Hp} {ta tb te tl : TE} {t u : TT} {xs ys : List V} {v : V} {a b : Bool} {D : Ends} {tu tz : TS}
theorem ev0_call {sp : Sp} {vs : List V} {E : XK} {tr : TA} (h : EvA tr σ H vs) (hs : ∀ H1, Ex H H1 → ∀ Q : VK, (∀ H2, Ex H0 H2 → Q v H2) → ∀ E : XK, sp (vs ++ []) H1 Q E) : Ev0 H0 (tCall sp [] E tr) σ H v := fun H1 e Q q =>
  h H1 e _ fun H2 e2 => hs H2 (e.trans e2) Q q E
theorem et0_B (h : Ev0 H0 te σ H (.bl b)) : EvT0 H0 (tB te) σ H b := fun H1 e Q q => h H1 e _ fun H2 e2 => ⟨b, rfl, q H2 e2⟩
theorem et0_not (h : EvT0 H0 t σ H b) : EvT0 H0 (tNot t) σ H (!b) := fun H1 e Q q => h H1 e _ fun H2 e2 => q H2 e2
theorem et0_andT (h : EvT t σ H true) (h2 : EvT0 H0 u σ H b) : EvT0 H0 (tAnd t u) σ H b := fun H1 e Q q => h H1 e _ fun H2 e2 => by
  show u σ H2 Q
  exact h2 H2 (e.trans e2) Q q
theorem et0_orF (h : EvT t σ H false) (h2 : EvT0 H0 u σ H b) : EvT0 H0 (tOr t u) σ H b := fun H1 e Q q => h H1 e _ fun H2 e2 => by
  show u σ H2 Q
  exact h2 H2 (e.trans e2) Q q
theorem s_when0 (h : EvT0 H0 t σ H false) (hk : ∀ H1, Ex H0 H1 → D.nx σ H1) : tIfS t tu tNext D σ H := h H (Ex.refl H) _ fun H1 e => by
  show tNext D σ H1
  exact hk H1 e
theorem eap_consP {tr : TA} {P1 : V → Hp → Prop} {P : List V → Hp → Prop} (h : EvP te σ H P1) (hm : ∀ v H1 H2, Ex H1 H2 → P1 v H1 → P1 v H2) (hr : EvAP tr σ H P) : EvAP (tCons te tr) σ H (fun vs H' => ∃ x us, vs = x :: us ∧ P1 x H' ∧ P us H') := fun H1 e _ q =>
  h H1 e _ fun x H2 e2 p => hr H2 (e.trans e2) _ fun us H3 e3 hP => q _ H3 (e2.trans e3) ⟨x, us, rfl, hm _ _ _ e3 p, hP⟩
theorem ep_tup {tr : TA} {P : List V → Hp → Prop} (h : EvAP tr σ H P) (hm : Mono P) (hl : ∀ vs H', P vs H' → vs.length ≤ 100000) : EvP (tTup tr) σ H (fun v H' => ∃ p vs, v = .ref p ∧ H p = none ∧ H' p = some (.tup vs) ∧ P vs H') := fun H1 e Q q =>
  h H1 e _ fun vs H2 e2 hp => ⟨sz_of (hl _ _ hp), fun p np => q _ _ (e2.trans (Ex.new np)) ⟨p, vs, rfl, fresh_back (e.trans e2) np, upd_same, hm _ _ _ (Ex.new np) hp⟩⟩
theorem mono_consP {P1 : V → Hp → Prop} {P : List V → Hp → Prop} (hm : ∀ v H1 H2, Ex H1 H2 → P1 v H1 → P1 v H2) (h : Mono P) : Mono (fun (vs : List V) (H' : Hp) => ∃ x us, vs = x :: us ∧ P1 x H' ∧ P us H') := fun _ _ _ e ⟨x, us, h1, h2, h3⟩ => ⟨x, us, h1, hm _ _ _ e h2, h _ _ _ e h3⟩
theorem atI_end {zs : List V} {n : Nat} {z : V} (h : zs[n]? = some z) (hl : zs.length = n + 1) : atI zs (-1) = some z := by
  have hne : zs ≠ [] := fun e => by
    rw [e] at hl
    cases hl
  have e := List.dropLast_concat_getLast hne
  have e2 : zs.getLast hne = z := by
    rw [List.getLast_eq_getElem]
    have h2 := (List.getElem?_eq_some_iff.mp h).2
    rw [← h2]
    congr 1
    omega
  rw [e2] at e
  rw [← e]
  exact atI_last _ _
theorem Lls.put {q : Addr} {y : List Int} : ∀ {zs : List V} {xss : List (List Int)} {i : Nat}, Lls H zs xss → zs.Nodup → zs[i]? = some (.ref q) → Lls (L2.upd H q (.lst (y.map V.int))) zs (xss.set i y)
  | _, _, _, .nil, _, h => by cases h
  | _, _, 0, .cons (p := p) _ r, hn, e => by
    cases e
    obtain ⟨h1, h2⟩ := List.nodup_cons.mp hn
    exact .cons upd_same (r.upd fun z hz => fun e => h1 (by rw [← e]; exact hz))
  | _, _, i + 1, .cons (p := p) (zs := zs) h r, hn, e => by
    obtain ⟨h1, h2⟩ := List.nodup_cons.mp hn
    have e' : zs[i]? = some (V.ref q) := e
    have hpq : p ≠ q := fun z => by
      rw [z] at h1
      exact h1 (List.mem_of_getElem? e')
    exact .cons ((upd_ne hpq).trans h) (r.put h2 e)
end
theorem given_ints (n : Nat) (f : Nat → Bool) : given n f (fun i => V.int (i : Nat)) = (((List.range n).filter f).map fun (i : Nat) => (i : Int)).map V.int := by
  unfold given
  rw [List.map_map]
  rfl
end XP
namespace K5
open PySem PySem.Spec PyProof.Rows L2 Evl XP
def topS (i : Nat) : Stmt := PySem.Challenge.pw_stairparts_k05_whole_ways_down.main.body.getD i (.Pass ⟨0, 0, 0, 0⟩)
/-- slots: 0 thing -/
abbrev s_is_number : Stmt := topS 7
theorem sc_is_number : FnScope ["thing"] ["thing"] (defScope s_is_number) := ⟨rfl, rfl, rfl, by decide +kernel, rfl, by decide +kernel, by decide +kernel⟩
/-- slots: 0 thing, 1 whole, 2 ahead, 3 part -/
abbrev s_is_parting : Stmt := topS 8
theorem sc_is_parting : FnScope ["thing", "whole", "ahead", "part"] ["thing"] (defScope s_is_parting) := ⟨rfl, rfl, rfl, by decide +kernel, rfl, by decide +kernel, by decide +kernel⟩
/-- slots: 0 thing -/
abbrev s_check_parting : Stmt := topS 9
theorem sc_check_parting : FnScope ["thing"] ["thing"] (defScope s_check_parting) := ⟨rfl, rfl, rfl, by decide +kernel, rfl, by decide +kernel, by decide +kernel⟩
/-- slots: 0 one, 1 other -/
abbrev s_lies_above : Stmt := topS 11
theorem sc_lies_above : FnScope ["one", "other"] ["one", "other"] (defScope s_lies_above) := ⟨rfl, rfl, rfl, by decide +kernel, rfl, by decide +kernel, by decide +kernel⟩
/-- slots: 0 one, 1 other, 2 lead, 3 place, 4 gap -/
abbrev s_lacking_count : Stmt := topS 12
theorem sc_lacking_count : FnScope ["one", "other", "lead", "place", "gap"] ["one", "other"] (defScope s_lacking_count) := ⟨rfl, rfl, rfl, by decide +kernel, rfl, by decide +kernel, by decide +kernel⟩
/-- slots: 0 parting, 1 first, 2 second, 3 parts -/
abbrev s_let_down : Stmt := topS 13
theorem sc_let_down : FnScope ["parting", "first", "second", "parts"] ["parting", "first", "second"] (defScope s_let_down) := ⟨rfl, rfl, rfl, by decide +kernel, rfl, by decide +kernel, by decide +kernel⟩
/-- slots: 0 one, 1 other, 2 way -/
abbrev s_way_down : Stmt := topS 14
theorem sc_way_down : FnScope ["one", "other", "way"] ["one", "other"] (defScope s_way_down) := ⟨rfl, rfl, rfl, by decide +kernel, rfl, by decide +kernel, by decide +kernel⟩
/-- slots: 0 one, 1 other -/
abbrev s_check_pair : Stmt := topS 15
theorem sc_check_pair : FnScope ["one", "other"] ["one", "other"] (defScope s_check_pair) := ⟨rfl, rfl, rfl, by decide +kernel, rfl, by decide +kernel, by decide +kernel⟩
/-- slots: 0 one, 1 other, 2 part, 3 facing -/
abbrev s_gaps : Stmt := topS 16
theorem sc_gaps : FnScope ["one", "other", "part", "facing"] ["one", "other"] (defScope s_gaps) := ⟨rfl, rfl, rfl, by decide +kernel, rfl, by decide +kernel, by decide +kernel⟩
/-- slots: 0 parting, 1 first, 2 second -/
abbrev s_are_places : Stmt := topS 17
theorem sc_are_places : FnScope ["parting", "first", "second"] ["parting", "first", "second"] (defScope s_are_places) := ⟨rfl, rfl, rfl, by decide +kernel, rfl, by decide +kernel, by decide +kernel⟩
/-- slots: 0 parting, 1 goal, 2 gaps, 3 second, 4 first, 5 place, 6 gap -/
abbrev s_nearer : Stmt := topS 18
theorem sc_nearer : FnScope ["parting", "goal", "gaps", "second", "first", "place", "gap"] ["parting", "goal"] (defScope s_nearer) := ⟨rfl, rfl, rfl, by decide +kernel, rfl, by decide +kernel, by decide +kernel⟩
/-- slots: 0 _law_number_here, 1 _law_k -/
abbrev s_law_mixed : Stmt := topS 20
theorem sc_law_mixed : FnScope ["_law_number_here", "_law_k"] ["_law_number_here", "_law_k"] (defScope s_law_mixed) := ⟨rfl, rfl, rfl, by decide +kernel, rfl, by decide +kernel, by decide +kernel⟩
/-- slots: 0 _law_script, 1 _law_k -/
abbrev s_law_number : Stmt := topS 21
theorem sc_law_number : FnScope ["_law_script", "_law_k"] ["_law_script", "_law_k"] (defScope s_law_number) := ⟨rfl, rfl, rfl, by decide +kernel, rfl, by decide +kernel, by decide +kernel⟩
/-- slots: 0 _law_script, 1 _law_first, 2 _law_number_here, 3 _law_most, 4 _law_many, 5 _law_found, 6 _law_k, 7 _law_part -/
abbrev s_law_parting_by : Stmt := topS 22
theorem sc_law_parting_by : FnScope ["_law_script", "_law_first", "_law_number_here", "_law_most", "_law_many", "_law_found", "_law_k", "_law_part"] ["_law_script", "_law_first"] (defScope s_law_parting_by) := ⟨rfl, rfl, rfl, by decide +kernel, rfl, by decide +kernel, by decide +kernel⟩
/-- slots: 0 _law_script, 1 _law_one, 2 _law_number_here, 3 _law_other, 4 _law_less, 5 _law_k, 6 _law_at, 7 _law_far, 8 _law_row (cell), 9 _law_j, 10 _law_part -/
abbrev s_law_pair_by : Stmt := topS 23
theorem sc_law_pair_by : FnScope ["_law_script", "_law_one", "_law_number_here", "_law_other", "_law_less", "_law_k", "_law_at", "_law_far", "_law_row", "_law_j", "_law_part"] ["_law_script"] (defScope s_law_pair_by) := ⟨rfl, rfl, rfl, by decide +kernel, rfl, by decide +kernel, by decide +kernel⟩
/-- slots: 0 _law_thing (cell), 1 _law_k, 2 _law_one -/
abbrev s_law_is_stair : Stmt := topS 24
theorem sc_law_is_stair : FnScope ["_law_thing", "_law_k", "_law_one"] ["_law_thing"] (defScope s_law_is_stair) := ⟨rfl, rfl, rfl, by decide +kernel, rfl, by decide +kernel, by decide +kernel⟩
/-- slots: 0 _law_ahead, 1 _law_after, 2 _law_far, 3 _law_one (cell), 4 _law_other (cell), 5 _law_places, 6 _law_k -/
abbrev s_law_step_right : Stmt := topS 25
theorem sc_law_step_right : FnScope ["_law_ahead", "_law_after", "_law_far", "_law_one", "_law_other", "_law_places", "_law_k"] ["_law_ahead", "_law_after"] (defScope s_law_step_right) := ⟨rfl, rfl, rfl, by decide +kernel, rfl, by decide +kernel, by decide +kernel⟩
/-- slots: 0 _law_found, 1 _law_one, 2 _law_other, 3 _law_parting, 4 _law_kept, 5 _law_k -/
abbrev s_law_is_way : Stmt := topS 26
theorem sc_law_is_way : FnScope ["_law_found", "_law_one", "_law_other", "_law_parting", "_law_kept", "_law_k"] ["_law_found", "_law_one", "_law_other"] (defScope s_law_is_way) := ⟨rfl, rfl, rfl, by decide +kernel, rfl, by decide +kernel, by decide +kernel⟩
/-- slots: 0 _law_parting, 1 _law_most, 2 _law_found, 3 _law_part, 4 _law_left -/
abbrev s_law_to : Stmt := topS 27
theorem sc_law_to : FnScope ["_law_parting", "_law_most", "_law_found", "_law_part", "_law_left"] ["_law_parting", "_law_most"] (defScope s_law_to) := ⟨rfl, rfl, rfl, by decide +kernel, rfl, by decide +kernel, by decide +kernel⟩
/-- slots: 0 _law_one, 1 _law_other, 2 _law_many -/
abbrev s_law_lacks : Stmt := topS 28
theorem sc_law_lacks : FnScope ["_law_one", "_law_other", "_law_many"] ["_law_one", "_law_other"] (defScope s_law_lacks) := ⟨rfl, rfl, rfl, by decide +kernel, rfl, by decide +kernel, by decide +kernel⟩
/-- slots: 0 _law_script, 1 _law_pair, 2 _law_one, 3 _law_other, 4 _law_handed, 5 _law_turn, 6 _law_found -/
abbrev s_law : Stmt := topS 29
theorem sc_law : FnScope ["_law_script", "_law_pair", "_law_one", "_law_other", "_law_handed", "_law_turn", "_law_found"] ["_law_script"] (defScope s_law) := ⟨rfl, rfl, rfl, by decide +kernel, rfl, by decide +kernel, by decide +kernel⟩
structure Tx (K : PySem.W.Frag) (mg : Str → Option Value) where
  a_is_number : Addr
  d_is_number : FuncData
  F_is_number : Fun K "is_number" "is_number" s_is_number a_is_number d_is_number
  b_is_number : Binds K d_is_number ["thing"] []
  g_is_number : mg "is_number" = some (.ref a_is_number)
  a_is_parting : Addr
  d_is_parting : FuncData
  F_is_parting : Fun K "is_parting" "is_parting" s_is_parting a_is_parting d_is_parting
  b_is_parting : Binds K d_is_parting ["thing"] []
  g_is_parting : mg "is_parting" = some (.ref a_is_parting)
  a_check_parting : Addr
  d_check_parting : FuncData
  F_check_parting : Fun K "check_parting" "check_parting" s_check_parting a_check_parting d_check_parting
  b_check_parting : Binds K d_check_parting ["thing"] []
  g_check_parting : mg "check_parting" = some (.ref a_check_parting)
  a_lies_above : Addr
  d_lies_above : FuncData
  F_lies_above : Fun K "lies_above" "lies_above" s_lies_above a_lies_above d_lies_above
  b_lies_above : Binds K d_lies_above ["one", "other"] []
  g_lies_above : mg "lies_above" = some (.ref a_lies_above)
  a_lacking_count : Addr
  d_lacking_count : FuncData
  F_lacking_count : Fun K "lacking_count" "lacking_count" s_lacking_count a_lacking_count d_lacking_count
  b_lacking_count : Binds K d_lacking_count ["one", "other"] []
  g_lacking_count : mg "lacking_count" = some (.ref a_lacking_count)
  a_let_down : Addr
  d_let_down : FuncData
  F_let_down : Fun K "let_down" "let_down" s_let_down a_let_down d_let_down
  b_let_down : Binds K d_let_down ["parting", "first", "second"] []
  g_let_down : mg "let_down" = some (.ref a_let_down)
  a_way_down : Addr
  d_way_down : FuncData
  F_way_down : Fun K "way_down" "way_down" s_way_down a_way_down d_way_down
  b_way_down : Binds K d_way_down ["one", "other"] []
  g_way_down : mg "way_down" = some (.ref a_way_down)
  a_check_pair : Addr
  d_check_pair : FuncData
  F_check_pair : Fun K "_check_pair" "_check_pair" s_check_pair a_check_pair d_check_pair
  b_check_pair : Binds K d_check_pair ["one", "other"] []
  g_check_pair : mg "_check_pair" = some (.ref a_check_pair)
  a_gaps : Addr
  d_gaps : FuncData
  F_gaps : Fun K "_gaps" "_gaps" s_gaps a_gaps d_gaps
  b_gaps : Binds K d_gaps ["one", "other"] []
  g_gaps : mg "_gaps" = some (.ref a_gaps)
  a_are_places : Addr
  d_are_places : FuncData
  F_are_places : Fun K "_are_places" "_are_places" s_are_places a_are_places d_are_places
  b_are_places : Binds K d_are_places ["parting", "first", "second"] []
  g_are_places : mg "_are_places" = some (.ref a_are_places)
  a_nearer : Addr
  d_nearer : FuncData
  F_nearer : Fun K "_nearer" "_nearer" s_nearer a_nearer d_nearer
  b_nearer : Binds K d_nearer ["parting", "goal"] []
  g_nearer : mg "_nearer" = some (.ref a_nearer)
  a_law_mixed : Addr
  d_law_mixed : FuncData
  F_law_mixed : Fun K "_law_mixed" "_law_mixed" s_law_mixed a_law_mixed d_law_mixed
  b_law_mixed : Binds K d_law_mixed ["_law_number_here", "_law_k"] []
  g_law_mixed : mg "_law_mixed" = some (.ref a_law_mixed)
  a_law_number : Addr
  d_law_number : FuncData
  F_law_number : Fun K "_law_number" "_law_number" s_law_number a_law_number d_law_number
  b_law_number : Binds K d_law_number ["_law_script", "_law_k"] []
  g_law_number : mg "_law_number" = some (.ref a_law_number)
  a_law_parting_by : Addr
  d_law_parting_by : FuncData
  F_law_parting_by : Fun K "_law_parting_by" "_law_parting_by" s_law_parting_by a_law_parting_by d_law_parting_by
  b_law_parting_by : Binds K d_law_parting_by ["_law_script", "_law_first"] []
  g_law_parting_by : mg "_law_parting_by" = some (.ref a_law_parting_by)
  a_law_pair_by : Addr
  d_law_pair_by : FuncData
  F_law_pair_by : Fun K "_law_pair_by" "_law_pair_by" s_law_pair_by a_law_pair_by d_law_pair_by
  b_law_pair_by : Binds K d_law_pair_by ["_law_script"] []
  g_law_pair_by : mg "_law_pair_by" = some (.ref a_law_pair_by)
  a_law_is_stair : Addr
  d_law_is_stair : FuncData
  F_law_is_stair : Fun K "_law_is_stair" "_law_is_stair" s_law_is_stair a_law_is_stair d_law_is_stair
  b_law_is_stair : Binds K d_law_is_stair ["_law_thing"] []
  g_law_is_stair : mg "_law_is_stair" = some (.ref a_law_is_stair)
  a_law_step_right : Addr
  d_law_step_right : FuncData
  F_law_step_right : Fun K "_law_step_right" "_law_step_right" s_law_step_right a_law_step_right d_law_step_right
  b_law_step_right : Binds K d_law_step_right ["_law_ahead", "_law_after"] []
  g_law_step_right : mg "_law_step_right" = some (.ref a_law_step_right)
  a_law_is_way : Addr
  d_law_is_way : FuncData
  F_law_is_way : Fun K "_law_is_way" "_law_is_way" s_law_is_way a_law_is_way d_law_is_way
  b_law_is_way : Binds K d_law_is_way ["_law_found", "_law_one", "_law_other"] []
  g_law_is_way : mg "_law_is_way" = some (.ref a_law_is_way)
  a_law_to : Addr
  d_law_to : FuncData
  F_law_to : Fun K "_law_to" "_law_to" s_law_to a_law_to d_law_to
  b_law_to : Binds K d_law_to ["_law_parting", "_law_most"] []
  g_law_to : mg "_law_to" = some (.ref a_law_to)
  a_law_lacks : Addr
  d_law_lacks : FuncData
  F_law_lacks : Fun K "_law_lacks" "_law_lacks" s_law_lacks a_law_lacks d_law_lacks
  b_law_lacks : Binds K d_law_lacks ["_law_one", "_law_other"] []
  g_law_lacks : mg "_law_lacks" = some (.ref a_law_lacks)
  a_law : Addr
  d_law : FuncData
  F_law : Fun K "law" "law" s_law a_law d_law
  b_law : Binds K d_law ["_law_script"] []
  g_law : mg "law" = some (.ref a_law)
  n_abs : mg "abs" = none
  n_all : mg "all" = none
  n_bool : mg "bool" = none
  n_enumerate : mg "enumerate" = none
  n_int : mg "int" = none
  n_isinstance : mg "isinstance" = none
  n_len : mg "len" = none
  n_list : mg "list" = none
  n_max : mg "max" = none
  n_min : mg "min" = none
  n_range : mg "range" = none
  n_sorted : mg "sorted" = none
  n_sum : mg "sum" = none
  g_zip_longest : mg "zip_longest" = some (.type "itertools.zip_longest")
  u_GREATEST_WHOLE : Value
  c_GREATEST_WHOLE : mg "GREATEST_WHOLE" = some u_GREATEST_WHOLE
  r_GREATEST_WHOLE : RelV (.int 200) u_GREATEST_WHOLE
  C_NoFit : Addr
  g_NoFit : mg "NoFit" = some (.ref C_NoFit)
  x_NoFit : PySem.W.excIn K C_NoFit [.type "ValueError", .type "Exception", .type "BaseException", .type "object"] "ValueError.__new__" = true
  k_NoFit : PySem.W.keepIn K (.ref C_NoFit) = true
  s_NoFit : PySem.W.subIn K (.ref C_NoFit) (.type "BaseException") = some true
  t_NoFit : PySem.W.typeIn K (.ref C_NoFit) = some (.type "type")
  e_NoFit : ExcC K C_NoFit
/-! ### the draws: _law_mixed, _law_number, _law_parting_by -/
def mixed (n k : Int) : Int := ((n % 2147483647 + 7919 * k * k + 31 * k) * 48271 % 2147483647) * (69621 + 2 * k) % 2147483629
theorem mixed_nn (n k : Int) : 0 ≤ mixed n k := Int.emod_nonneg _ (by decide)
theorem mixed_lt (n k : Int) : mixed n k < 2147483629 := Int.emod_lt_of_pos _ (by decide)
def numb (ns : List Int) (k : Int) : Int := if ns = [] then mixed 17 k else mixed (ns.getD (k % (ns.length : Int)).toNat 0) k
theorem numb_nn (ns : List Int) (k : Int) : 0 ≤ numb ns k := by
  unfold numb
  split
  · exact mixed_nn _ _
  · exact mixed_nn _ _
theorem numb_lt (ns : List Int) (k : Int) : numb ns k < 2147483629 := by
  unfold numb
  split
  · exact mixed_lt _ _
  · exact mixed_lt _ _
/-- what a parting is -/
def IsP (p : List Int) : Prop := (∀ x ∈ p, 1 ≤ x) ∧ p.Pairwise (fun a b => b ≤ a) ∧ p.sum ≤ 200
theorem sum_nn : ∀ {p : List Int}, (∀ x ∈ p, 0 ≤ x) → 0 ≤ p.sum
  | [], _ => Int.le_refl _
  | x :: r, h => by
    have h1 := h x List.mem_cons_self
    have h2 := sum_nn (p := r) fun y hy => h y (List.mem_cons_of_mem _ hy)
    rw [List.sum_cons]
    omega
theorem len_le_sum : ∀ {p : List Int}, (∀ x ∈ p, 1 ≤ x) → (p.length : Int) ≤ p.sum
  | [], _ => Int.le_refl _
  | x :: r, h => by
    have h1 := h x List.mem_cons_self
    have h2 := len_le_sum (p := r) fun y hy => h y (List.mem_cons_of_mem _ hy)
    rw [List.sum_cons, List.length_cons]
    omega
theorem IsP.len {p : List Int} (h : IsP p) : p.length ≤ 200 := by
  have h1 := len_le_sum h.1
  have h2 := h.2.2
  omega
theorem le_sum : ∀ {p : List Int}, (∀ x ∈ p, 0 ≤ x) → ∀ x ∈ p, x ≤ p.sum
  | [], _, x, hx => by cases hx
  | y :: r, h, x, hx => by
    have h1 := h y List.mem_cons_self
    have h2 := sum_nn (p := r) fun z hz => h z (List.mem_cons_of_mem _ hz)
    rw [List.sum_cons]
    rcases List.mem_cons.mp hx with e | hx
    · omega
    · have h3 := le_sum (p := r) (fun z hz => h z (List.mem_cons_of_mem _ hz)) x hx
      omega
theorem sum_append (a b : List Int) : (a ++ b).sum = a.sum + b.sum := List.sum_append
theorem sum_perm {a b : List Int} (h : a.Perm b) : a.sum = b.sum := by
  induction h with
  | nil => rfl
  | cons x _ ih => rw [List.sum_cons, List.sum_cons, ih]
  | swap x y l => rw [List.sum_cons, List.sum_cons, List.sum_cons, List.sum_cons]; omega
  | trans _ _ ih1 ih2 => exact ih1.trans ih2
theorem desc_reverse {l : List Int} (h : l.Pairwise (· ≤ ·)) : l.reverse.Pairwise (fun a b => b ≤ a) := List.pairwise_reverse.mpr h
section
variable {P : Program} {w : World} {K : PySem.W.Frag} {mg : Str → Option Value} {base : Heap}
def sp_law_mixed : Sp := fun vs H Q _ => ∃ n k : Int, vs = [.int n, .int k] ∧ 0 ≤ k ∧ k ≤ 100000 ∧ RetV (.int (mixed n k)) H Q
theorem ok_law_mixed (T : Tx K mg) : FnOk P w K mg base CX0 1 T.a_law_mixed T.d_law_mixed ["_law_number_here", "_law_k"] sp_law_mixed := by
  refine T.F_law_mixed.ok sc_law_mixed (fun vs H Q E h => ?_) (fun cdv A outer s H vs Q E hr h => ?_)
  · obtain ⟨n, k, rfl, _⟩ := h
    rfl
  · obtain ⟨n, k, rfl, k0, k1, q⟩ := h
    refine ⟨_, (pss_cons (ps_set (i := 0) sc_law_mixed.nd rfl (Or.inl rfl) (pe_op op_mod (pe_op op_mul (pe_op op_add (pe_op op_add (pe_op op_mod (pv 0) pe_int) (pe_op op_mul (pe_op op_mul pe_int (pv 1)) (pv 1))) (pe_op op_mul pe_int (pv 1))) pe_int) pe_int))
    (pss_one (ps_ret (pe_op op_mod (pe_op op_mul (pv 0) (pe_op op_add pe_int (pe_op op_mul pe_int (pv 1)))) pe_int)))), ?_⟩
    refine q_asg (ev_rI (ev_rI (ev_rI0 (ev_rI0 (ev_rI (ev_var rfl) ev_c (by decide)) (ev_rI (ev_rI ev_c (ev_var rfl) (.inl (by decide))) (ev_var rfl) (.inr (by omega)))) (ev_rI ev_c (ev_var rfl) (.inl (by decide)))) ev_c (.inr (by decide))) ev_c (by decide)) fun H1 e1 => ?_
    refine s_ret (ev_rI (ev_rI (ev_var rfl) (ev_rI0 ev_c (ev_rI ev_c (ev_var rfl) (.inl (by decide)))) (.inr (by omega))) ev_c (by decide)) fun H2 e2 => ?_
    exact q H2 (e1.trans e2)
theorem spv_mixed {n k : Int} {H : Hp} (k0 : 0 ≤ k) (k1 : k ≤ 100000) : SpV sp_law_mixed [.int n, .int k] H (.int (mixed n k)) := fun H1 _ _ q _ => ⟨n, k, rfl, k0, k1, q⟩
def sp_law_number (K : PySem.W.Frag) : Sp := fun vs H Q _ => ∃ (a : Addr) (ns : List Int) (k : Int), vs = [.ref a, .int k] ∧ SqL K H a (ns.map V.int) ∧ 0 ≤ k ∧ k ≤ 100000 ∧ RetV (.int (numb ns k)) H Q
theorem ok_law_number (T : Tx K mg) : FnOk P w K mg base CX0 2 T.a_law_number T.d_law_number ["_law_script", "_law_k"] (sp_law_number K) := by
  refine T.F_law_number.ok sc_law_number (fun vs H Q E h => ?_) (fun cdv A outer s H vs Q E hr h => ?_)
  · obtain ⟨a, ns, k, rfl, _⟩ := h
    rfl
  · obtain ⟨a, ns, k, rfl, hS, k0, k1, q⟩ := h
    refine ⟨_, (pss_cons (ps_if (pt_cmpR (eqK (K := K) rfl hr.units) (pv 0) (pe_lst pa_nil) (nomark _))
      (pss_one (ps_ret (pe_call (ok_law_mixed T) (hr.mono (by decide)) (by rfl) T.g_law_mixed T.F_law_mixed.kp T.b_law_mixed .nil pass0 (pa_cons pe_int (pa_cons (pv 1) pa_nil)))))
      pss_nil)
    (pss_one (ps_ret (pe_call (ok_law_mixed T) (hr.mono (by decide)) (by rfl) T.g_law_mixed T.F_law_mixed.kp T.b_law_mixed .nil pass0 (pa_cons (pe_ix (ixlK (K := K) rfl) (pv 0) (pe_op op_mod (pv 1) (pe_callB (lenK (K := K) rfl) (by rfl) T.n_len PySem.boot_len (pa_cons (pv 0) pa_nil))) (fun _ _ => rfl)) (pa_cons (pv 1) pa_nil)))))), ?_⟩
    refine q_when (b := decide (ns = [])) (et_test (ev_opL (ev_var rfl) (el_lst (vs := []) ea_nil (by decide)) fun p H1 hp e1 => rv_eqL (ys := []) (ex_l e1 hS) (sq_of hp))) (fun hb H1 e1 => ?_) (fun hb H1 e1 => ?_)
    · have hn : ns = [] := of_decide_eq_true hb
      refine s_ret (ev_call (ea_cons ev_c (ea_cons (ev_var rfl) ea_nil)) (spv_mixed k0 k1)) fun H2 e2 => ?_
      have := q H2 (e1.trans e2)
      unfold numb at this
      rw [if_pos hn] at this
      exact this
    · have hn : ns ≠ [] := of_decide_eq_false hb
      have hl : 0 < ns.length := List.length_pos_iff.mpr hn
      have h1 : 0 ≤ k % (ns.length : Int) := Int.emod_nonneg _ (by omega)
      have h2 : k % (ns.length : Int) < ns.length := Int.emod_lt_of_pos _ (by omega)
      have el : ((ns.map V.int).length : Int) = (ns.length : Int) := by rw [List.length_map]
      refine s_ret (ev_call (ea_cons (ev_ixI (ev_var rfl) (ev_is (ev_rI (ev_var rfl) (ev_cb (ea_cons (ev_var rfl) ea_nil) (rc_len (ex_l e1 hS))) (by rw [el]; omega)) (by rw [el])) (ex_l e1 hS) h1 h2) (ea_cons (ev_var rfl) ea_nil)) (spv_mixed k0 k1)) fun H2 e2 => ?_
      have := q H2 (e1.trans e2)
      unfold numb at this
      rw [if_neg hn] at this
      exact this
theorem spv_number {a : Addr} {ns : List Int} {k : Int} {H : Hp} (hS : SqL K H a (ns.map V.int)) (k0 : 0 ≤ k) (k1 : k ≤ 100000) : SpV (sp_law_number K) [.ref a, .int k] H (.int (numb ns k)) := fun H1 e _ q _ => ⟨a, ns, k, rfl, ex_l e hS, k0, k1, q⟩
/-- one of a few written numbers -/
theorem at_few {zs : List Int} {i : Int} (h0 : 0 ≤ i) (h1 : i < zs.length) (lo hi : Int) (hz : ∀ z ∈ zs, lo ≤ z ∧ z ≤ hi) : ∃ z, atI (zs.map V.int) i = some (.int z) ∧ lo ≤ z ∧ z ≤ hi := by
  obtain ⟨j, rfl⟩ := Int.eq_ofNat_of_zero_le h0
  have hj : j < zs.length := by omega
  refine ⟨zs[j], atI_nat ?_, hz _ (List.getElem_mem hj)⟩
  rw [List.getElem?_map, List.getElem?_eq_getElem hj]
  rfl
/-- a list of whole numbers, new, of which P is known -/
def RetLP (P : List Int → Prop) (H : Hp) (Q : VK) : Prop := ∀ (p : Addr) (ys : List Int) (H2 : Hp), H p = none → Ex H H2 → Ll H2 p ys → P ys → Q (.ref p) H2
def sp_law_parting_by (K : PySem.W.Frag) : Sp := fun vs H Q _ => ∃ (a : Addr) (ns : List Int) (k : Int), vs = [.ref a, .int k] ∧ SqL K H a (ns.map V.int) ∧ ns.length ≤ 63 ∧ 0 ≤ k ∧ k ≤ 1000 ∧ RetLP IsP H Q
theorem ok_law_parting_by (T : Tx K mg) : FnOk P w K mg base CX0 3 T.a_law_parting_by T.d_law_parting_by ["_law_script", "_law_first"] (sp_law_parting_by K) := by
  refine T.F_law_parting_by.ok sc_law_parting_by (fun vs H Q E h => ?_) (fun cdv A outer s H vs Q E hr h => ?_)
  · obtain ⟨a, ns, k, rfl, _⟩ := h
    rfl
  · obtain ⟨a, ns, k, rfl, hS, hlen, k0, k1, q⟩ := h
    refine ⟨_, (pss_cons (ps_set (i := 2) sc_law_parting_by.nd rfl (Or.inl rfl) (pe_call (ok_law_number T) (hr.mono (by decide)) (by rfl) T.g_law_number T.F_law_number.kp T.b_law_number .nil pass0 (pa_cons (pv 0) (pa_cons (pv 1) pa_nil))))
    (pss_cons (ps_set (i := 3) sc_law_parting_by.nd rfl (Or.inl rfl) (pe_ix (ixlK (K := K) rfl) (pe_lst (pa_cons pe_int (pa_cons pe_int (pa_cons pe_int (pa_cons pe_int (pa_cons pe_int (pa_cons pe_int pa_nil))))))) (pe_op op_mod (pv 2) pe_int) (fun _ _ => rfl)))
    (pss_cons (ps_set (i := 4) sc_law_parting_by.nd rfl (Or.inl rfl) (pe_ix (ixlK (K := K) rfl) (pe_lst (pa_cons (pe_callB (lenK (K := K) rfl) (by rfl) T.n_len PySem.boot_len (pa_cons (pv 0) pa_nil)) (pa_cons pe_int (pa_cons pe_int (pa_cons pe_int pa_nil))))) (pe_op op_mod (pe_op op_fdiv (pv 2) pe_int) pe_int) (fun _ _ => rfl)))
    (pss_cons (ps_set (i := 5) sc_law_parting_by.nd rfl (Or.inl rfl) (pe_lst pa_nil))
    (pss_cons (ps_for PassesOwn.never rfl (pi_range1 rfl T.n_range (pa_cons (pe_callB (call_min2 rfl) (by rfl) T.n_min (by decide +kernel) (pa_cons (pv 4) (pa_cons pe_int pa_nil))) pa_nil)) (pg_name (i := 6) sc_law_parting_by.nd rfl (Or.inl rfl))
      (pss_cons (ps_set (i := 7) sc_law_parting_by.nd rfl (Or.inl rfl) (pe_op op_add pe_int (pe_op op_mod (pe_call (ok_law_number T) (hr.mono (by decide)) (by rfl) T.g_law_number T.F_law_number.kp T.b_law_number .nil pass0 (pa_cons (pv 0) (pa_cons (pe_op op_add (pe_op op_add (pv 1) pe_int) (pv 6)) pa_nil))) (pv 3))))
      (pss_one (ps_if (pt_cmpR op_le (pe_op op_add (pe_callB (sumK (K := K) rfl rfl) (by rfl) T.n_sum (by decide +kernel) (pa_cons (pv 5) pa_nil)) (pv 7)) pe_int (nomark _))
        (pss_one (ps_expr (pe_bm PySem.F.plainAttrs_list PySem.F.slot_list_append PySem.F.type_list_append mt_append (pv 5) (pa_cons (pv 7) pa_nil))))
        pss_nil))))
    (pss_cons (ps_set (i := 5) sc_law_parting_by.nd rfl (Or.inl rfl) (pe_callB (sortedK (K := K) rfl) (by rfl) T.n_sorted (by decide +kernel) (pa_cons (pv 5) pa_nil)))
    (pss_cons (ps_expr (pe_bm0 PySem.F.plainAttrs_list PySem.F.slot_list_reverse PySem.F.type_list_reverse mt_reverse (pv 5)))
    (pss_one (ps_ret (pv 5)))))))))), ?_⟩
    refine q_asg (ev_call (ea_cons (ev_var rfl) (ea_cons (ev_var rfl) ea_nil)) (spv_number hS k0 (by omega))) fun H1 e1 => ?_
    have n0 := numb_nn ns k
    generalize numb ns k = m at n0 ⊢
    obtain ⟨c, hc, c1, c2⟩ := at_few (zs := [2, 4, 7, 12, 30, 90]) (i := m % 6) (by omega) (by show m % 6 < 6; omega) 2 90 (by decide)
    refine q_asg (ev_ixN (el_lst (ea_cons ev_c (ea_cons ev_c (ea_cons ev_c (ea_cons ev_c (ea_cons ev_c (ea_cons ev_c ea_nil)))))) (by decide)) (fun H2 _ => ev_rI (ev_var rfl) ev_c (by decide)) hc) fun H2 e2 => ?_
    obtain ⟨l, hl, l1, l2⟩ := at_few (zs := [(ns.length : Int), 3, 6, 40]) (i := m / 6 % 4) (by omega) (by show m / 6 % 4 < 4; omega) 0 63 (by
      intro z hz
      simp only [List.mem_cons, List.not_mem_nil, or_false] at hz
      omega)
    have el : ((ns.map V.int).length : Int) = (ns.length : Int) := by rw [List.length_map]
    refine q_asg (ev_ixN (el_lst (ea_cons (ev_is (ev_cb (ea_cons (ev_var rfl) ea_nil) (rc_len (ex_l (e1.trans e2) hS))) (by rw [el])) (ea_cons ev_c (ea_cons ev_c (ea_cons ev_c ea_nil)))) (by show 4 ≤ 100000; decide)) (fun H2 _ => ev_rI (ev_rI (ev_var rfl) ev_c ⟨by decide, by decide⟩) ev_c (by decide)) hl) fun H3 e3 => ?_
    refine q_asgL (xs := []) (el_lst ea_nil (by decide)) fun p H4 np e4 hp => ?_
    have e14 : Ex H H4 := ((e1.trans e2).trans e3).trans e4
    have npH : H p = none := fresh_back ((e1.trans e2).trans e3) np
    have hm : (if (60 : Int) < l then (60 : Int) else l) ≤ 60 := by split <;> omega
    have hm0 : 0 ≤ (if (60 : Int) < l then (60 : Int) else l) := by split <;> omega
    refine q_forR1 (ea_cons (ev_cb (ea_cons (ev_var rfl) (ea_cons ev_c ea_nil)) rc_min2) ea_nil) ⟨hm0, by omega⟩
      (fun i σ' H' => ∃ (fs : List Int) (y1 y2 : Option V), σ' = [some (.ref a), some (.int k), some (.int m), some (.int c), some (.int l), some (.ref p), y1, y2] ∧ Ex H H' ∧ Ll H' p fs ∧ (∀ x ∈ fs, 1 ≤ x) ∧ fs.sum ≤ 200)
      (fun H5 e5 => ⟨[], none, none, rfl, e14.trans e5, e5 _ _ hp, (fun x hx => by cases hx), by decide⟩) (fun i σ' H' hi hP => ?_) (fun σ' H' hP => ?_)
    · obtain ⟨fs, y1, y2, rfl, eH, hf, f1, f2⟩ := hP
      have hS' := ex_l eH hS
      have b0 := numb_nn ns (k + 1 + (i : Int))
      refine q_asg (ev_rI0 ev_c (ev_rI (ev_call (ea_cons (ev_var rfl) (ea_cons (ev_rI0 (ev_rI0 (ev_var rfl) ev_c) (ev_var rfl)) ea_nil)) (spv_number hS' (by omega) (by omega))) (ev_var rfl) (by omega))) fun H5 e5 => ?_
      have d0 : 0 ≤ numb ns (k + 1 + (i : Int)) % c := Int.emod_nonneg _ (by omega)
      generalize hd : numb ns (k + 1 + (i : Int)) % c = d at d0 ⊢
      refine s_when (b := decide (fs.sum + (1 + d) ≤ 200)) (et_test (ev_rI0 (ev_rI0 (ev_cb (ea_cons (ev_var rfl) ea_nil) (rc_sum (ex_l e5 hf.sq))) (ev_var rfl)) ev_c)) (fun hb H6 e6 => ?_) (fun hb H6 e6 => ?_)
      · have hle := of_decide_eq_true hb
        have hfl := len_le_sum f1
        refine s_app (xs := fs.map V.int) ((e5.trans e6) _ _ hf) (ev_var rfl) (ev_var rfl) (by rw [List.length_map]; omega) fun H7 e7 => ?_
        refine ⟨fs ++ [1 + d], _, _, rfl, ((eH.trans (e5.trans e6)).trans e7).mut npH, ?_, fun x hx => ?_, ?_⟩
        · show upd H7 p _ p = _
          rw [upd_same, List.map_append]
          rfl
        · rcases List.mem_append.mp hx with hx | hx
          · exact f1 x hx
          · rw [List.mem_singleton.mp hx]
            omega
        · rw [sum_append]
          show fs.sum + ((1 + d) + 0) ≤ 200
          omega
      · exact ⟨fs, _, _, rfl, eH.trans (e5.trans e6), (e5.trans e6) _ _ hf, f1, f2⟩
    · obtain ⟨fs, y1, y2, rfl, eH, hf, f1, f2⟩ := hP
      refine q_asgP (evP_sorted (ea_cons (ev_var rfl) ea_nil) hf.sq) fun v H5 e5 hv => ?_
      obtain ⟨o, ys, rfl, no, hp1, ho, hy⟩ := hv
      have noH : H o = none := fresh_back eH no
      refine q_rev (ev_var rfl) hy fun H6 e6 => ?_
      refine s_ret (ev_var rfl) fun H7 e7 => ?_
      refine q o ys.reverse H7 noH (((eH.trans (e5.trans e6)).mut noH).trans e7) (e7 _ _ ?_) ⟨fun x hx => ?_, desc_reverse ho, ?_⟩
      · rw [upd_same, List.map_reverse]
      · exact f1 x (hp1.mem_iff.mp (List.mem_reverse.mp hx))
      · rw [sum_perm (List.reverse_perm ys), sum_perm hp1]
        exact f2
theorem evP_parting {a : Addr} {ns : List Int} {k : Int} {σ : L2.St} {H : Hp} {ta : TA} {E : XK} (h : EvA ta σ H [.ref a, .int k]) (hS : SqL K H a (ns.map V.int)) (hl : ns.length ≤ 63) (k0 : 0 ≤ k) (k1 : k ≤ 1000) :
    EvP (tCall (sp_law_parting_by K) [] E ta) σ H (fun v H1 => ∃ (p : Addr) (ys : List Int), v = .ref p ∧ H p = none ∧ Ll H1 p ys ∧ IsP ys) :=
  evP_call h fun H1 e Q q E => ⟨a, ns, k, rfl, ex_l e hS, hl, k0, k1, fun p ys H2 np e2 hp hy => q _ _ e2 ⟨p, ys, rfl, fresh_back e np, hp, hy⟩⟩
end
/-! ### stairparts.partings: is_number, is_parting, check_parting -/
def partB : Int → Int → List Int → Bool
  | _, _, [] => true
  | ahead, whole, x :: r => if x < 1 ∨ ahead < x then false else if 200 < whole + x then false else partB x (whole + x) r
theorem partB_iff : ∀ (p : List Int) (ahead whole : Int), whole ≤ 200 → (partB ahead whole p = true ↔ (∀ x ∈ p, 1 ≤ x ∧ x ≤ ahead) ∧ p.Pairwise (fun a b => b ≤ a) ∧ whole + p.sum ≤ 200)
  | [], ahead, whole, h => by
    refine ⟨fun _ => ⟨fun x hx => (by cases hx), .nil, ?_⟩, fun _ => rfl⟩
    show whole + 0 ≤ 200
    omega
  | x :: r, ahead, whole, h => by
    show (if x < 1 ∨ ahead < x then false else if 200 < whole + x then false else partB x (whole + x) r) = true ↔ _
    rw [List.sum_cons, List.pairwise_cons]
    by_cases c : x < 1 ∨ ahead < x
    · rw [if_pos c]
      refine ⟨fun z => (by cases z), fun ⟨h1, _, _⟩ => ?_⟩
      have := h1 x List.mem_cons_self
      omega
    · rw [if_neg c]
      by_cases c2 : 200 < whole + x
      · rw [if_pos c2]
        refine ⟨fun z => (by cases z), fun ⟨h1, _, h3⟩ => ?_⟩
        have := sum_nn (p := r) fun y hy => (by have := h1 y (List.mem_cons_of_mem _ hy); omega)
        omega
      · rw [if_neg c2, partB_iff r x (whole + x) (by omega)]
        refine ⟨fun ⟨h1, h2, h3⟩ => ⟨fun y hy => ?_, ⟨fun y hy => (h1 y hy).2, h2⟩, by omega⟩, fun ⟨h1, h2, h3⟩ => ⟨fun y hy => ⟨(h1 y (List.mem_cons_of_mem _ hy)).1, h2.1 y hy⟩, h2.2, by omega⟩⟩
        rcases List.mem_cons.mp hy with e | hy
        · omega
        · have := h1 y hy
          omega
def isPart (p : List Int) : Bool := partB 200 0 p
theorem isPart_iff {p : List Int} : isPart p = true ↔ IsP p := by
  unfold isPart
  rw [partB_iff p 200 0 (by decide)]
  refine ⟨fun ⟨h1, h2, h3⟩ => ⟨fun x hx => (h1 x hx).1, h2, by omega⟩, fun ⟨h1, h2, h3⟩ => ⟨fun x hx => ⟨h1 x hx, ?_⟩, h2, by omega⟩⟩
  have := le_sum (fun y hy => (by have := h1 y hy; omega)) x hx
  omega
theorem IsP.is {p : List Int} (h : IsP p) : isPart p = true := isPart_iff.mpr h
section
variable {P : Program} {w : World} {K : PySem.W.Frag} {mg : Str → Option Value} {base : Heap}
def sp_is_number (K : PySem.W.Frag) : Sp := fun vs H Q _ => ∃ (x : V) (t : Value) (b1 b2 : Bool), vs = [x] ∧ (∀ H1, Ex H H1 → TyX K H1 x t) ∧ PySem.W.kitOne K t (.type "int") = some b1 ∧ PySem.W.kitOne K t (.type "bool") = some b2 ∧ RetV (.bl (b1 && !b2)) H Q
theorem ok_is_number (T : Tx K mg) : FnOk P w K mg base CX0 1 T.a_is_number T.d_is_number ["thing"] (sp_is_number K) := by
  refine T.F_is_number.ok sc_is_number (fun vs H Q E h => ?_) (fun cdv A outer s H vs Q E hr h => ?_)
  · obtain ⟨x, t, b1, b2, rfl, _⟩ := h
    rfl
  · obtain ⟨x, t, b1, b2, rfl, ty, k1, k2, q⟩ := h
    refine ⟨_, (pss_one (ps_ret (pe_and (pe_callB (isiK (K := K) rfl) (by rfl) T.n_isinstance (by decide +kernel) (pa_cons (pv 0) (pa_cons (pe_bltn (v := .ty "int") (u := .type "int") (by rfl) T.n_int (by decide +kernel) rfl) pa_nil))) (pe_one (pe_not (pe_callB (isiK (K := K) rfl) (by rfl) T.n_isinstance (by decide +kernel) (pa_cons (pv 0) (pa_cons (pe_bltn (v := .ty "bool") (u := .type "bool") (by rfl) T.n_bool (by decide +kernel) rfl) pa_nil)))))))), ?_⟩
    exact s_ret (ev_andV (ev_cb (ea_cons (ev_var rfl) (ea_cons ev_c ea_nil)) (rc_isi (.ty _) ty k1)) fun _ => ev_notV (ev_cb (ea_cons (ev_var rfl) (ea_cons ev_c ea_nil)) (rc_isi (.ty _) ty k2))) fun H1 e1 => q H1 e1
theorem spv_number_int {i : Int} {H : Hp} : SpV (sp_is_number K) [.int i] H (.bl true) := fun H1 e Q q _ =>
  ⟨.int i, .type "int", true, false, rfl, fun _ _ => .base (.int _), kit_ty (by decide +kernel), kit_ty (by decide +kernel), q⟩
def sp_is_parting : Sp := fun vs H Q _ => ∃ (a : Addr) (ns : List Int), vs = [.ref a] ∧ Ll H a ns ∧ RetV (.bl (isPart ns)) H Q
theorem ok_is_parting (T : Tx K mg) : FnOk P w K mg base CX0 2 T.a_is_parting T.d_is_parting ["thing"] sp_is_parting := by
  refine T.F_is_parting.ok sc_is_parting (fun vs H Q E h => ?_) (fun cdv A outer s H vs Q E hr h => ?_)
  · obtain ⟨a, ns, rfl, _⟩ := h
    rfl
  · obtain ⟨a, ns, rfl, hL, q⟩ := h
    refine ⟨_, (pss_cons (ps_if (pt_not (pt_val (pe_callB (isiK (K := K) rfl) (by rfl) T.n_isinstance (by decide +kernel) (pa_cons (pv 0) (pa_cons (pe_bltn (v := .ty "list") (u := .type "list") (by rfl) T.n_list (by decide +kernel) rfl) pa_nil)))))
      (pss_one (ps_ret pe_bl))
      pss_nil)
    (pss_cons (ps_set (i := 1) sc_is_parting.nd rfl (Or.inl rfl) pe_int)
    (pss_cons (ps_set (i := 2) sc_is_parting.nd rfl (Or.inl rfl) (pe_glob rfl T.c_GREATEST_WHOLE T.r_GREATEST_WHOLE))
    (pss_cons (ps_for PassesOwn.never rfl (pi_list (pv 0)) (pg_name (i := 3) sc_is_parting.nd rfl (Or.inl rfl))
      (pss_cons (ps_if (PW.pt (pw_or (pt_not (pt_val (pe_call (ok_is_number T) (hr.mono (by decide)) (by rfl) T.g_is_number T.F_is_number.kp T.b_is_number .nil pass0 (pa_cons (pv 3) pa_nil)))) (pw_or (pt_cmpR op_lt (pv 3) pe_int (nomark _)) (pw_or1 (pt_cmpR op_gt (pv 3) (pv 2) (nomark _))))))
        (pss_one (ps_ret pe_bl))
        pss_nil)
      (pss_cons (ps_set (i := 2) sc_is_parting.nd rfl (Or.inl rfl) (pv 3))
      (pss_cons (ps_aug (i := 1) sc_is_parting.nd rfl (Or.inl rfl) (pv 3) ip_add)
      (pss_one (ps_if (pt_cmpR op_gt (pv 1) (pe_glob rfl T.c_GREATEST_WHOLE T.r_GREATEST_WHOLE) (nomark _))
        (pss_one (ps_ret pe_bl))
        pss_nil))))))
    (pss_one (ps_ret pe_bl)))))), ?_⟩
    refine q_when (et_not (et_B (ev_cb (ea_cons (ev_var rfl) (ea_cons ev_c ea_nil)) (rc_isiL hL)))) (fun hb => by cases hb) (fun _ H1 e1 => ?_)
    refine q_asg ev_c fun H2 e2 => ?_
    refine q_asg ev_c fun H3 e3 => ?_
    have e13 := (e1.trans e2).trans e3
    refine q_forLn (ev_var rfl) (ex_l e13 hL.sq) (fun i σ' H' => ∃ (ah wh : Int) (y : Option V), σ' = [some (.ref a), some (.int wh), some (.int ah), y] ∧ Ex H H' ∧ isPart ns = partB ah wh (ns.drop i))
      (fun H4 e4 => ⟨200, 0, none, rfl, e13.trans e4, rfl⟩) (fun i σ' H' _ hP => ?_) (fun i x σ' H' hx hP => ?_) (fun σ' H' hP => ?_)
    · obtain ⟨ah, wh, y, rfl, eH, _⟩ := hP
      exact ex_l eH hL.sq
    · obtain ⟨ah, wh, y, rfl, eH, hp⟩ := hP
      obtain ⟨z, hz, rfl⟩ := get_int hx
      rw [drop_one hz] at hp
      have hp' : isPart ns = if z < 1 ∨ ah < z then false else if 200 < wh + z then false else partB z (wh + z) (ns.drop (i + 1)) := hp
      refine q_when (b := decide (z < 1) || decide (ah < z)) (et_is (et_or (et_not (et_B (ev_call (ea_cons (ev_var rfl) ea_nil) spv_number_int))) fun _ => et_or (et_test (ev_rI0 (ev_var rfl) ev_c)) fun _ => et_test (ev_rI0 (ev_var rfl) (ev_var rfl))) rfl) (fun hb H4 e4 => ?_) (fun hb H4 e4 => ?_)
      · refine s_ret ev_c fun H5 e5 => ?_
        rw [Bool.or_eq_true, decide_eq_true_eq, decide_eq_true_eq] at hb
        rw [if_pos hb] at hp'
        have := q H5 (eH.trans (e4.trans e5))
        rw [hp'] at this
        exact this
      · rw [Bool.or_eq_false_iff, decide_eq_false_iff_not, decide_eq_false_iff_not] at hb
        rw [if_neg (by omega)] at hp'
        refine q_asg (ev_var rfl) fun H5 e5 => ?_
        refine q_aug rfl (ev_var rfl) fun H6 e6 => ?_
        refine s_when (b := decide (200 < wh + z)) (et_test (ev_rI0 (ev_var rfl) ev_c)) (fun hb H7 e7 => ?_) (fun hb H7 e7 => ?_)
        · refine s_ret ev_c fun H8 e8 => ?_
          rw [if_pos (of_decide_eq_true hb)] at hp'
          have := q H8 (eH.trans ((((e4.trans e5).trans e6).trans e7).trans e8))
          rw [hp'] at this
          exact this
        · rw [if_neg (of_decide_eq_false hb)] at hp'
          exact ⟨z, wh + z, _, rfl, eH.trans (((e4.trans e5).trans e6).trans e7), hp'⟩
    · obtain ⟨ah, wh, y, rfl, eH, hp⟩ := hP
      have hp' : isPart ns = true := by
        rw [hp, List.drop_of_length_le (by rw [List.length_map]; exact Nat.le_refl _)]
        rfl
      refine s_ret ev_c fun H5 e5 => ?_
      have := q H5 (eH.trans e5)
      rw [hp'] at this
      exact this
theorem spv_is_parting {a : Addr} {ns : List Int} {H : Hp} (hL : Ll H a ns) : SpV sp_is_parting [.ref a] H (.bl (isPart ns)) := fun H1 e _ q _ => ⟨a, ns, rfl, e _ _ hL, q⟩
def sp_check_parting : Sp := fun vs H Q _ => ∃ (a : Addr) (ns : List Int), vs = [.ref a] ∧ Ll H a ns ∧ IsP ns ∧ RetV .non H Q
theorem ok_check_parting (T : Tx K mg) : FnOk P w K mg base CX0 3 T.a_check_parting T.d_check_parting ["thing"] sp_check_parting := by
  refine T.F_check_parting.ok sc_check_parting (fun vs H Q E h => ?_) (fun cdv A outer s H vs Q E hr h => ?_)
  · obtain ⟨a, ns, rfl, _⟩ := h
    rfl
  · obtain ⟨a, ns, rfl, hL, hp, q⟩ := h
    refine ⟨_, (pss_one (ps_if (pt_not (pt_val (pe_call (ok_is_parting T) (hr.mono (by decide)) (by rfl) T.g_is_parting T.F_is_parting.kp T.b_is_parting .nil pass0 (pa_cons (pv 0) pa_nil))))
      (pss_one ps_never)
      pss_nil)), ?_⟩
    refine s_when (et_not (et_B (ev_call (ea_cons (ev_var rfl) ea_nil) (spv_is_parting hL)))) (fun hb => ?_) (fun _ H1 e1 => q H1 e1)
    rw [hp.is] at hb
    cases hb
theorem spv_check {a : Addr} {ns : List Int} {H : Hp} (hL : Ll H a ns) (hp : IsP ns) : SpV sp_check_parting [.ref a] H .non := fun H1 e _ q _ => ⟨a, ns, rfl, e _ _ hL, hp, q⟩
end
/-! ### stairparts.order: _check_pair, _gaps, lacking_count, lies_above -/
/-- the differences, part by part -/
def gapsL (xs ys : List Int) : List Int := (List.range (max xs.length ys.length)).map fun i => xs.getD i 0 - ys.getD i 0
/-- how far the first i parts of xs are ahead of those of ys -/
def lead (xs ys : List Int) (i : Nat) : Int := (xs.take i).sum - (ys.take i).sum
theorem take_next (xs : List Int) (i : Nat) : (xs.take (i + 1)).sum = (xs.take i).sum + xs.getD i 0 := by
  cases e : xs[i]? with
  | none =>
    have h := List.getElem?_eq_none_iff.mp e
    rw [List.take_of_length_le (by omega), List.take_of_length_le h]
    simp [List.getD, e]
  | some x =>
    rw [take_one e, sum_append]
    simp [List.getD, e]
theorem lead_next (xs ys : List Int) (i : Nat) : lead xs ys (i + 1) = lead xs ys i + (xs.getD i 0 - ys.getD i 0) := by
  unfold lead
  rw [take_next, take_next]
  omega
theorem lead_zero (xs ys : List Int) : lead xs ys 0 = 0 := rfl
/-- the least m of i + 1 .. i + n with P m below 0 -/
def firstF (P : Nat → Int) : Nat → Nat → V
  | _, 0 => .non
  | i, n + 1 => if P (i + 1) < 0 then .int ((i + 1 : Nat) : Int) else firstF P (i + 1) n
def lackV (xs ys : List Int) : V := firstF (lead xs ys) 0 (max xs.length ys.length)
theorem firstF_step {P : Nat → Int} {i n : Nat} (h : i < n) : firstF P i (n - i) = if P (i + 1) < 0 then .int ((i + 1 : Nat) : Int) else firstF P (i + 1) (n - (i + 1)) := by
  obtain ⟨m, rfl⟩ : ∃ m, n = i + (m + 1) := ⟨n - i - 1, by omega⟩
  rw [show i + (m + 1) - i = m + 1 by omega, show i + (m + 1) - (i + 1) = m by omega]
  rfl
theorem firstF_non {P : Nat → Int} : ∀ {n i : Nat}, firstF P i n = .non ↔ ∀ m, i < m → m ≤ i + n → 0 ≤ P m
  | 0, i => ⟨fun _ m h1 h2 => by omega, fun _ => rfl⟩
  | n + 1, i => by
    unfold firstF
    by_cases c : P (i + 1) < 0
    · rw [if_pos c]
      refine ⟨fun z => (by cases z), fun h => ?_⟩
      have := h (i + 1) (by omega) (by omega)
      omega
    · rw [if_neg c, firstF_non (n := n)]
      refine ⟨fun h m h1 h2 => ?_, fun h m h1 h2 => h m (by omega) (by omega)⟩
      by_cases e : m = i + 1
      · rw [e]
        omega
      · exact h m (by omega) (by omega)
theorem firstF_some {P : Nat → Int} : ∀ {n i : Nat} {v : V}, firstF P i n = v → v ≠ .non → ∃ m : Nat, v = .int (m : Int) ∧ i < m ∧ m ≤ i + n ∧ P m < 0
  | 0, i, v, h, hv => absurd h.symm hv
  | n + 1, i, v, h, hv => by
    unfold firstF at h
    by_cases c : P (i + 1) < 0
    · rw [if_pos c] at h
      exact ⟨i + 1, h.symm, by omega, by omega, c⟩
    · rw [if_neg c] at h
      obtain ⟨m, h1, h2, h3, h4⟩ := firstF_some h hv
      exact ⟨m, h1, by omega, by omega, h4⟩
theorem gaps_len (xs ys : List Int) : (gapsL xs ys).length = max xs.length ys.length := by
  unfold gapsL
  simp
theorem gaps_get {xs ys : List Int} {i : Nat} {x : V} (h : ((gapsL xs ys).map V.int)[i]? = some x) : i < max xs.length ys.length ∧ x = .int (xs.getD i 0 - ys.getD i 0) := by
  have hi := lt_of_get h
  rw [List.length_map, gaps_len] at hi
  refine ⟨hi, ?_⟩
  unfold gapsL at h
  rw [List.getElem?_map, List.getElem?_map, List.getElem?_range hi] at h
  cases h
  rfl
theorem vget (xs : List Int) (i : Nat) : (xs.map V.int)[i]?.getD (.int 0) = .int (xs.getD i 0) := by
  rw [List.getElem?_map]
  cases e : xs[i]? <;> simp [List.getD, e]
section
variable {P : Program} {w : World} {K : PySem.W.Frag} {mg : Str → Option Value} {base : Heap}
def sp_gaps : Sp := fun vs H Q _ => ∃ (a b : Addr) (xs ys : List Int), vs = [.ref a, .ref b] ∧ Ll H a xs ∧ Ll H b ys ∧ xs.length ≤ 400 ∧ ys.length ≤ 400 ∧ RetL ((gapsL xs ys).map V.int) H Q
theorem ok_gaps (T : Tx K mg) : FnOk P w K mg base CX0 1 T.a_gaps T.d_gaps ["one", "other"] sp_gaps := by
  refine T.F_gaps.ok sc_gaps (fun vs H Q E h => ?_) (fun cdv A outer s H vs Q E hr h => ?_)
  · obtain ⟨a, b, xs, ys, rfl, _⟩ := h
    rfl
  · obtain ⟨a, b, xs, ys, rfl, hx, hy, lx, ly, q⟩ := h
    refine ⟨_, (pss_one (ps_ret (pe_lc (own := [("part", 2), ("facing", 3)]) (g := g2n K 2 3) (by rfl) sc_gaps.nd (pi_zipL (by rfl) T.g_zip_longest (pa_cons (pv 0) (pa_cons (pv 1) pa_nil)) (pk_cons pe_int pk_nil)) (blkOk_by (own := [("part", 2), ("facing", 3)]) (N := ["one", "other", "part", "facing"]) (sc := defScope s_gaps) (by decide +kernel)) (fun _ _ _ _ _ => (pg_tup rfl (pgs_cons (pg_name (i := 2) sc_gaps.nd rfl (Or.inl rfl)) (pgs_cons (pg_name (i := 3) sc_gaps.nd rfl (Or.inl rfl)) pgs_nil)))) (fun _ _ _ _ _ => pts_nil) (fun _ _ _ _ _ => (pe_op op_sub (pv 2) (pv 3)))))), ?_⟩
    refine s_retL (el_is (el_lcZ (d := .int 0) (fun _ => true) (fun i => .int (xs.getD i 0 - ys.getD i 0)) (ea_cons (ev_var rfl) (ea_cons (ev_var rfl) ea_nil)) (ea_cons ev_c ea_nil) hx.sq hy.sq (by rw [List.length_map, List.length_map]; omega) (fun _ _ => rfl)
      (fun i H2 hi e2 => et_yes) fun i H2 hi e2 _ => ?_) ?_) fun p H1 np e1 hp => q p H1 np e1 hp
    · rw [vget, vget]
      exact ev_rI0 (ev_var rfl) (ev_var rfl)
    · rw [List.length_map, List.length_map, given_all]
      unfold gapsL
      rw [List.map_map]
      rfl
theorem spl_gaps {a b : Addr} {xs ys : List Int} {H : Hp} (hx : Ll H a xs) (hy : Ll H b ys) (lx : xs.length ≤ 400) (ly : ys.length ≤ 400) : SpL sp_gaps [.ref a, .ref b] H ((gapsL xs ys).map V.int) := fun H1 e _ q _ => ⟨a, b, xs, ys, rfl, e _ _ hx, e _ _ hy, lx, ly, q⟩
def sp_check_pair (C : Addr) : Sp := fun vs H Q E => ∃ (a b : Addr) (xs ys : List Int), vs = [.ref a, .ref b] ∧ Ll H a xs ∧ Ll H b ys ∧ IsP xs ∧ IsP ys ∧ (xs.sum ≠ ys.sum → ∀ H', Ex H H' → E (.ref C) none H') ∧ (xs.sum = ys.sum → RetV .non H Q)
theorem ok_check_pair (T : Tx K mg) : FnOk P w K mg base (L2.CX P w) 4 T.a_check_pair T.d_check_pair ["one", "other"] (sp_check_pair T.C_NoFit) := by
  refine T.F_check_pair.okX sc_check_pair (fun vs H Q E h => ?_) (fun cdv A outer s H vs Q E hr h => ?_)
  · obtain ⟨a, b, xs, ys, rfl, _⟩ := h
    rfl
  · obtain ⟨a, b, xs, ys, rfl, hx, hy, ix, iy, qn, qs⟩ := h
    refine ⟨_, (pss_cons (ps_expr (pe_call (ok_check_parting T) (hr.mono (by decide)) (by rfl) T.g_check_parting T.F_check_parting.kp T.b_check_parting .nil pass0 (pa_cons (pv 0) pa_nil)))
    (pss_cons (ps_expr (pe_call (ok_check_parting T) (hr.mono (by decide)) (by rfl) T.g_check_parting T.F_check_parting.kp T.b_check_parting .nil pass0 (pa_cons (pv 1) pa_nil)))
    (pss_one (ps_if (pt_cmpR op_ne (pe_callB (sumK (K := K) rfl rfl) (by rfl) T.n_sum (by decide +kernel) (pa_cons (pv 0) pa_nil)) (pe_callB (sumK (K := K) rfl rfl) (by rfl) T.n_sum (by decide +kernel) (pa_cons (pv 1) pa_nil)) (nomark _))
      (pss_one (ps_raise rfl (takes_of rfl rfl rfl rfl) (pmk_own PySem.F.excBase_ValueError T.x_NoFit T.g_NoFit T.k_NoFit (raises_own T.s_NoFit T.t_NoFit) rfl)))
      pss_nil)))), ?_⟩
    refine q_drop (ev_call (ea_cons (ev_var rfl) ea_nil) (spv_check hx ix)) fun H1 e1 => ?_
    refine q_drop (ev_call (ea_cons (ev_var rfl) ea_nil) (spv_check (e1 _ _ hy) iy)) fun H2 e2 => ?_
    have e12 := e1.trans e2
    refine s_when (et_test (ev_ne (ev_cb (ea_cons (ev_var rfl) ea_nil) (rc_sum (Ll.sq (e12 _ _ hx)))) (ev_cb (ea_cons (ev_var rfl) ea_nil) (rc_sum (Ll.sq (e12 _ _ hy)))) rfl)) (fun hb H3 e3 => ?_) (fun hb H3 e3 => ?_)
    · show E (.ref T.C_NoFit) none H3
      exact qn (fun z => by rw [z] at hb; simp at hb) H3 (e12.trans e3)
    · refine qs ?_ H3 (e12.trans e3)
      have := hb
      simp at this
      exact this
theorem spv_pair {a b C : Addr} {xs ys : List Int} {H : Hp} (hx : Ll H a xs) (hy : Ll H b ys) (ix : IsP xs) (iy : IsP ys) (he : xs.sum = ys.sum) : SpV (sp_check_pair C) [.ref a, .ref b] H .non := fun H1 e _ q _ => ⟨a, b, xs, ys, rfl, e _ _ hx, e _ _ hy, ix, iy, fun z => absurd he z, fun _ => q⟩
def sp_lacking_count (C : Addr) : Sp := fun vs H Q E => ∃ (a b : Addr) (xs ys : List Int), vs = [.ref a, .ref b] ∧ Ll H a xs ∧ Ll H b ys ∧ IsP xs ∧ IsP ys ∧ (xs.sum ≠ ys.sum → ∀ H', Ex H H' → E (.ref C) none H') ∧ (xs.sum = ys.sum → RetV (lackV xs ys) H Q)
theorem ok_lacking_count (T : Tx K mg) : FnOk P w K mg base (L2.CX P w) 5 T.a_lacking_count T.d_lacking_count ["one", "other"] (sp_lacking_count T.C_NoFit) := by
  refine T.F_lacking_count.okX sc_lacking_count (fun vs H Q E h => ?_) (fun cdv A outer s H vs Q E hr h => ?_)
  · obtain ⟨a, b, xs, ys, rfl, _⟩ := h
    rfl
  · obtain ⟨a, b, xs, ys, rfl, hx, hy, ix, iy, qn, qs⟩ := h
    refine ⟨_, (pss_cons (ps_expr (pe_call (ok_check_pair T) (hr.mono (by decide)) (by rfl) T.g_check_pair T.F_check_pair.kp T.b_check_pair .nil (E := E) (passes_call (takes_of rfl rfl rfl rfl) fun _ _ _ _ h => h) (pa_cons (pv 0) (pa_cons (pv 1) pa_nil))))
    (pss_cons (ps_set (i := 2) sc_lacking_count.nd rfl (Or.inl rfl) pe_int)
    (pss_cons (ps_for (g := g2n K 3 4) (passes_of rfl) rfl (pi_enum (by rfl) T.n_enumerate (pa_cons (pe_call (ok_gaps T) (hr.mono (by decide)) (by rfl) T.g_gaps T.F_gaps.kp T.b_gaps .nil pass0 (pa_cons (pv 0) (pa_cons (pv 1) pa_nil))) pa_nil)) (pg_tup rfl (pgs_cons (pg_name (i := 3) sc_lacking_count.nd rfl (Or.inl rfl)) (pgs_cons (pg_name (i := 4) sc_lacking_count.nd rfl (Or.inl rfl)) pgs_nil)))
      (pss_cons (ps_aug (i := 2) sc_lacking_count.nd rfl (Or.inl rfl) (pv 4) ip_add)
      (pss_one (ps_if (pt_cmpR op_lt (pv 2) pe_int (nomark _))
        (pss_one (ps_ret (pe_op op_add (pv 3) pe_int)))
        pss_nil))))
    (pss_one (ps_ret pe_non))))), ?_⟩
    by_cases he : xs.sum = ys.sum
    · have q := qs he
      have lx := ix.len
      have ly := iy.len
      refine q_drop (ev_call (ea_cons (ev_var rfl) (ea_cons (ev_var rfl) ea_nil)) (spv_pair hx hy ix iy he)) fun H1 e1 => ?_
      refine q_asg ev_c fun H2 e2 => ?_
      have e12 := e1.trans e2
      refine q_forEN (Pv := fun p i σ' H' => ∃ y1 y2 : Option V, σ' = [some (.ref a), some (.ref b), some (.int (lead xs ys i)), y1, y2] ∧ Ex H H' ∧ Ll H' p (gapsL xs ys) ∧ lackV xs ys = firstF (lead xs ys) i (max xs.length ys.length - i))
        (el_call (ea_cons (ev_var rfl) (ea_cons (ev_var rfl) ea_nil)) (spl_gaps (e12 _ _ hx) (e12 _ _ hy) (by omega) (by omega))) (fun p H3 np e3 hp => ⟨none, none, rfl, e12.trans e3, hp, rfl⟩) (fun p i σ' H' _ hP => ?_) (fun p i x σ' H' H3 hg hP e3 => ?_) (fun p σ' H' hP => ?_)
      · obtain ⟨_, _, _, _, hp, _⟩ := hP
        exact hp.sq
      · obtain ⟨y1, y2, rfl, eH, hp, hl⟩ := hP
        obtain ⟨hi, rfl⟩ := gaps_get hg
        rw [firstF_step hi] at hl
        refine q_aug rfl (ev_var rfl) fun H4 e4 => ?_
        rw [← lead_next]
        refine s_when (et_test (ev_rI0 (ev_var rfl) ev_c)) (fun hb H5 e5 => ?_) (fun hb H5 e5 => ?_)
        · refine s_ret (ev_is (w := lackV xs ys) (ev_rI0 (ev_var rfl) ev_c) ?_) fun H6 e6 => q H6 (eH.trans (((e3.trans e4).trans e5).trans e6))
          rw [hl, if_pos (of_decide_eq_true hb)]
          rfl
        · rw [if_neg (of_decide_eq_false hb)] at hl
          exact ⟨_, _, rfl, eH.trans ((e3.trans e4).trans e5), ((e3.trans e4).trans e5) _ _ hp, hl⟩
      · obtain ⟨y1, y2, rfl, eH, hp, hl⟩ := hP
        rw [List.length_map, gaps_len, Nat.sub_self] at hl
        have hl' : lackV xs ys = .non := hl
        rw [hl'] at q
        exact s_ret ev_c fun H3 e3 => q H3 (eH.trans e3)
    · exact ⟨.ref a, rfl, .ref b, rfl, a, b, xs, ys, rfl, hx, hy, ix, iy, fun _ => qn he, fun z => absurd z he⟩
theorem spv_lacking {a b C : Addr} {xs ys : List Int} {H : Hp} (hx : Ll H a xs) (hy : Ll H b ys) (ix : IsP xs) (iy : IsP ys) (he : xs.sum = ys.sum) : SpV (sp_lacking_count C) [.ref a, .ref b] H (lackV xs ys) := fun H1 e _ q _ => ⟨a, b, xs, ys, rfl, e _ _ hx, e _ _ hy, ix, iy, fun z => absurd he z, fun _ => q⟩
def sp_lies_above (C : Addr) : Sp := fun vs H Q E => ∃ (a b : Addr) (xs ys : List Int), vs = [.ref a, .ref b] ∧ Ll H a xs ∧ Ll H b ys ∧ IsP xs ∧ IsP ys ∧ (xs.sum ≠ ys.sum → ∀ H', Ex H H' → E (.ref C) none H') ∧ (xs.sum = ys.sum → RetV (.bl (decide (lackV xs ys = .non))) H Q)
theorem ok_lies_above (T : Tx K mg) : FnOk P w K mg base (L2.CX P w) 6 T.a_lies_above T.d_lies_above ["one", "other"] (sp_lies_above T.C_NoFit) := by
  refine T.F_lies_above.okX sc_lies_above (fun vs H Q E h => ?_) (fun cdv A outer s H vs Q E hr h => ?_)
  · obtain ⟨a, b, xs, ys, rfl, _⟩ := h
    rfl
  · obtain ⟨a, b, xs, ys, rfl, hx, hy, ix, iy, qn, qs⟩ := h
    refine ⟨_, (pss_one (ps_ret (pe_cmpR op_isN (pe_call (ok_lacking_count T) (hr.mono (by decide)) (by rfl) T.g_lacking_count T.F_lacking_count.kp T.b_lacking_count .nil (E := E) (passes_call (takes_of rfl rfl rfl rfl) fun _ _ _ _ h => h) (pa_cons (pv 0) (pa_cons (pv 1) pa_nil))) pe_non (nomark _)))), ?_⟩
    by_cases he : xs.sum = ys.sum
    · exact s_ret (ev_isN (ev_call (ea_cons (ev_var rfl) (ea_cons (ev_var rfl) ea_nil)) (spv_lacking hx hy ix iy he))) fun H1 e1 => qs he H1 e1
    · exact ⟨.ref a, rfl, .ref b, rfl, a, b, xs, ys, rfl, hx, hy, ix, iy, fun _ => qn he, fun z => absurd z he⟩
theorem spv_above {a b C : Addr} {xs ys : List Int} {H : Hp} (hx : Ll H a xs) (hy : Ll H b ys) (ix : IsP xs) (iy : IsP ys) (he : xs.sum = ys.sum) : SpV (sp_lies_above C) [.ref a, .ref b] H (.bl (decide (lackV xs ys = .non))) := fun H1 e _ q _ => ⟨a, b, xs, ys, rfl, e _ _ hx, e _ _ hy, ix, iy, fun z => absurd he z, fun _ => q⟩
end
/-! ### a box moved: the row, its parts and its sum -/
/-- the row with the box moved, a 0 behind -/
def moved (ns : List Int) (i j : Nat) : List Int := let r := (ns ++ [0]).set i ((ns ++ [0]).getD i 0 - 1); r.set j (r.getD j 0 + 1)
theorem get_getD {l : List Int} {j : Nat} (h : j < l.length) : l[j]? = some (l.getD j 0) := by
  rw [List.getD, List.getElem?_eq_getElem h]
  rfl
theorem moved_len (ns : List Int) (i j : Nat) : (moved ns i j).length = ns.length + 1 := by
  unfold moved
  simp
theorem moved_get {ns : List Int} {i j : Nat} (hij : i < j) (hj : j ≤ ns.length) (k : Nat) : (moved ns i j).getD k 0 = (if k = i then (ns ++ [0]).getD k 0 - 1 else if k = j then (ns ++ [0]).getD k 0 + 1 else (ns ++ [0]).getD k 0) := by
  have hl : (ns ++ [0]).length = ns.length + 1 := by simp
  unfold moved
  simp only [List.getD_eq_getElem?_getD]
  rw [List.getElem?_set]
  by_cases h1 : j = k
  · subst h1
    rw [if_pos rfl, if_neg (by omega : ¬ j = i), if_pos rfl, if_pos (by rw [List.length_set]; omega)]
    simp only [Option.getD_some]
    rw [List.getElem?_set_ne (by omega)]
  · rw [if_neg h1, List.getElem?_set]
    by_cases h2 : i = k
    · subst h2
      rw [if_pos rfl, if_pos rfl, if_pos (by omega)]
      rfl
    · rw [if_neg h2, if_neg (by omega), if_neg (by omega)]
theorem front_get {ns : List Int} {k : Nat} (h : k < ns.length) : (ns ++ [0]).getD k 0 = ns[k] := by
  simp [List.getD, List.getElem?_append_left h, h]
theorem back_get {ns : List Int} : (ns ++ [0]).getD ns.length 0 = 0 := by simp [List.getD]
theorem sum_set_at : ∀ {l : List Int} {k : Nat} (z : Int), k < l.length → (l.set k z).sum = l.sum - l.getD k 0 + z
  | [], _, _, h => by simp at h
  | a :: r, 0, z, _ => by
    show (z :: r).sum = (a :: r).sum - a + z
    rw [List.sum_cons, List.sum_cons]
    omega
  | a :: r, k + 1, z, h => by
    have ih := sum_set_at (l := r) (k := k) z (by simpa using h)
    show (a :: r.set k z).sum = (a :: r).sum - r.getD k 0 + z
    rw [List.sum_cons, List.sum_cons, ih]
    omega
theorem moved_sum {ns : List Int} {i j : Nat} (hij : i < j) (hj : j ≤ ns.length) : (moved ns i j).sum = ns.sum := by
  have hl : (ns ++ [0]).length = ns.length + 1 := by simp
  unfold moved
  rw [sum_set_at _ (by rw [List.length_set]; omega), sum_set_at _ (by omega), sum_append]
  simp only [List.sum_cons, List.sum_nil]
  omega
theorem mem_getD {l : List Int} {x : Int} (h : x ∈ l) : ∃ k, k < l.length ∧ l.getD k 0 = x := by
  obtain ⟨k, hk, e⟩ := List.mem_iff_getElem.mp h
  exact ⟨k, hk, by simp [List.getD, hk, e]⟩
theorem getD_mem {l : List Int} {k : Nat} (h : k < l.length) : l.getD k 0 ∈ l := by
  have : l.getD k 0 = l[k] := by simp [List.getD, h]
  rw [this]
  exact List.getElem_mem h
/-! ### stairparts.order: _are_places, let_down -/
/-- a value of which it is known whether it is a whole number -/
def isI : V → Bool
  | .int _ => true
  | _ => false
def NumV (K : PySem.W.Frag) (H : Hp) (x : V) : Prop := ∃ (t : Value) (b1 b2 : Bool), (∀ H1, Ex H H1 → TyX K H1 x t) ∧ PySem.W.kitOne K t (.type "int") = some b1 ∧ PySem.W.kitOne K t (.type "bool") = some b2 ∧ (b1 && !b2) = isI x
theorem NumV.mono {K : PySem.W.Frag} {H H' : Hp} {x : V} (e : Ex H H') (h : NumV K H x) : NumV K H' x := by
  obtain ⟨t, b1, b2, h1, h2⟩ := h
  exact ⟨t, b1, b2, fun H1 e1 => h1 H1 (e.trans e1), h2⟩
theorem numV_int {K : PySem.W.Frag} {H : Hp} {i : Int} : NumV K H (.int i) := ⟨.type "int", true, false, fun _ _ => .base (.int _), kit_ty (by decide +kernel), kit_ty (by decide +kernel), rfl⟩
theorem numV_bl {K : PySem.W.Frag} {H : Hp} {b : Bool} : NumV K H (.bl b) := ⟨.type "bool", true, true, fun _ _ => .base (.bl _), kit_ty (by decide +kernel), kit_ty (by decide +kernel), rfl⟩
theorem numV_non {K : PySem.W.Frag} {H : Hp} : NumV K H .non := ⟨.type "NoneType", false, false, fun _ _ => .base .non, kit_ty (by decide +kernel), kit_ty (by decide +kernel), rfl⟩
theorem numV_str {K : PySem.W.Frag} {H : Hp} {x : Str} : NumV K H (.str x) := ⟨.type "str", false, false, fun _ _ => .base (.str _), kit_ty (by decide +kernel), kit_ty (by decide +kernel), rfl⟩
theorem numV_lst {K : PySem.W.Frag} {H : Hp} {a : Addr} {zs : List V} (h : H a = some (.lst zs)) : NumV K H (.ref a) := ⟨.type "list", false, false, fun _ e => .base (.lst (e _ _ h)), kit_ty (by decide +kernel), kit_ty (by decide +kernel), rfl⟩
/-- whether these are places of a list of n parts, from which and to which a box may be let down -/
def arePl (n : Nat) : V → V → Bool
  | .int i, .int j => decide (0 ≤ i) && (decide (i < j) && decide (j ≤ (n : Int)))
  | _, _ => false
theorem arePl_iff {n : Nat} {x y : V} : arePl n x y = true ↔ ∃ i j : Nat, x = .int (i : Int) ∧ y = .int (j : Int) ∧ i < j ∧ j ≤ n := by
  constructor
  · intro h
    cases x with
    | int i =>
      cases y with
      | int j =>
        have h' : (decide (0 ≤ i) && (decide (i < j) && decide (j ≤ (n : Int)))) = true := h
        simp only [Bool.and_eq_true, decide_eq_true_eq] at h'
        exact ⟨i.toNat, j.toNat, by rw [Int.toNat_of_nonneg h'.1], by rw [Int.toNat_of_nonneg (by omega)], by omega, by omega⟩
      | _ => cases h
    | _ => cases h
  · rintro ⟨i, j, rfl, rfl, h1, h2⟩
    show (decide (0 ≤ (i : Int)) && (decide ((i : Int) < (j : Int)) && decide ((j : Int) ≤ (n : Int)))) = true
    simp only [Bool.and_eq_true, decide_eq_true_eq]
    omega
theorem arePl_not {n : Nat} {x y : V} (h : isI x = false ∨ isI y = false) : arePl n x y = false := by
  cases x <;> cases y <;> first | rfl | (rcases h with h | h <;> cases h)
def cutz (r : List Int) : List Int := if r.getLastD 1 = 0 then r.dropLast else r
/-- what let_down tells: none, a refusal -/
def ldV (ns : List Int) : V → V → Option (List Int)
  | .int i, .int j => if arePl ns.length (.int i) (.int j) = true ∧ isPart (cutz (moved ns i.toNat j.toNat)) = true then some (cutz (moved ns i.toNat j.toNat)) else none
  | _, _ => none
theorem ldV_no {ns : List Int} {x y : V} (h : arePl ns.length x y = false) : ldV ns x y = none := by
  cases x with
  | int i =>
    cases y with
    | int j =>
      show (if arePl ns.length (.int i) (.int j) = true ∧ isPart (cutz (moved ns i.toNat j.toNat)) = true then some (cutz (moved ns i.toNat j.toNat)) else none) = none
      rw [h, if_neg (fun z => by cases z.1)]
    | _ => rfl
  | _ => rfl
theorem ldV_at {ns : List Int} {i j : Nat} (h : i < j ∧ j ≤ ns.length) : ldV ns (.int (i : Int)) (.int (j : Int)) = if isPart (cutz (moved ns i j)) = true then some (cutz (moved ns i j)) else none := by
  have h1 : arePl ns.length (.int (i : Int)) (.int (j : Int)) = true := arePl_iff.mpr ⟨i, j, rfl, rfl, h.1, h.2⟩
  show (if arePl ns.length (.int (i : Int)) (.int (j : Int)) = true ∧ isPart (cutz (moved ns (i : Int).toNat (j : Int).toNat)) = true then some (cutz (moved ns (i : Int).toNat (j : Int).toNat)) else none) = _
  rw [h1, Int.toNat_natCast, Int.toNat_natCast]
  by_cases c : isPart (cutz (moved ns i j)) = true
  · rw [if_pos ⟨rfl, c⟩, if_pos c]
  · rw [if_neg (fun z => c z.2), if_neg c]
theorem at_back (l : List Int) (z : Int) : atI ((l ++ [z]).map V.int) (-1) = some (.int z) := by
  rw [List.map_append]
  exact atI_last _ _
section
variable {P : Program} {w : World} {K : PySem.W.Frag} {mg : Str → Option Value} {base : Heap}
theorem spv_isnum {x : V} {H : Hp} (h : NumV K H x) : SpV (sp_is_number K) [x] H (.bl (isI x)) := fun H1 e Q q _ => by
  obtain ⟨t, b1, b2, h1, h2, h3, h4⟩ := h
  refine ⟨x, t, b1, b2, rfl, fun H2 e2 => h1 H2 (e.trans e2), h2, h3, ?_⟩
  rw [h4]
  exact q
def sp_are_places (K : PySem.W.Frag) : Sp := fun vs H Q _ => ∃ (a : Addr) (ns : List Int) (x y : V), vs = [.ref a, x, y] ∧ Ll H a ns ∧ NumV K H x ∧ NumV K H y ∧ RetV (.bl (arePl ns.length x y)) H Q
theorem ok_are_places (T : Tx K mg) : FnOk P w K mg base CX0 2 T.a_are_places T.d_are_places ["parting", "first", "second"] (sp_are_places K) := by
  refine T.F_are_places.ok sc_are_places (fun vs H Q E h => ?_) (fun cdv A outer s H vs Q E hr h => ?_)
  · obtain ⟨a, ns, x, y, rfl, _⟩ := h
    rfl
  · obtain ⟨a, ns, x, y, rfl, hL, hx, hy, q⟩ := h
    refine ⟨_, (pss_one (ps_ret (pe_and (pe_call (ok_is_number T) (hr.mono (by decide)) (by rfl) T.g_is_number T.F_is_number.kp T.b_is_number .nil pass0 (pa_cons (pv 1) pa_nil)) (pe_and (pe_call (ok_is_number T) (hr.mono (by decide)) (by rfl) T.g_is_number T.F_is_number.kp T.b_is_number .nil pass0 (pa_cons (pv 2) pa_nil)) (pe_one (pe_chain3 op_le op_lt op_le pe_int (pv 1) (pv 2) (pe_callB (lenK (K := K) rfl) (by rfl) T.n_len PySem.boot_len (pa_cons (pv 0) pa_nil)))))))), ?_⟩
    have e1 : arePl ns.length x y = (isI x && (isI y && arePl ns.length x y)) := by
      cases hx' : isI x with
      | false => rw [arePl_not (.inl hx')]; rfl
      | true =>
        cases hy' : isI y with
        | false => rw [arePl_not (.inr hy')]; rfl
        | true => rw [Bool.true_and, Bool.true_and]
    rw [e1] at q
    refine s_ret (ev_andV (ev_call (ea_cons (ev_var rfl) ea_nil) (spv_isnum hx)) fun ix => ev_andV (ev_call (ea_cons (ev_var rfl) ea_nil) (spv_isnum hy)) fun iy => ?_) fun H1 e => q H1 e
    cases x with
    | int i =>
      cases y with
      | int j =>
        exact ev_is (ev_chain3 ev_c (ev_var rfl) (ev_var rfl) (ev_cb (ea_cons (ev_var rfl) ea_nil) (rc_len hL.sq))) (by rw [List.length_map]; rfl)
      | _ => cases iy
    | _ => cases ix
theorem spv_are {a : Addr} {ns : List Int} {x y : V} {H : Hp} (hL : Ll H a ns) (hx : NumV K H x) (hy : NumV K H y) : SpV (sp_are_places K) [.ref a, x, y] H (.bl (arePl ns.length x y)) := fun H1 e _ q _ => ⟨a, ns, x, y, rfl, e _ _ hL, hx.mono e, hy.mono e, q⟩
def sp_let_down (K : PySem.W.Frag) (C : Addr) : Sp := fun vs H Q E => ∃ (a : Addr) (ns : List Int) (x y : V), vs = [.ref a, x, y] ∧ Ll H a ns ∧ IsP ns ∧ NumV K H x ∧ NumV K H y ∧
  (ldV ns x y = none → ∀ H', Ex H H' → E (.ref C) none H') ∧ ∀ r, ldV ns x y = some r → RetL (r.map V.int) H Q
theorem getLastD_cut {r : List Int} {n : Nat} (h : r.length = n + 1) : r[n]? = some (r.getLastD 1) := by
  have hne : r ≠ [] := fun z => by rw [z] at h; cases h
  rw [List.getLastD_eq_getLast?, List.getLast?_eq_getElem?, h, Nat.add_sub_cancel, List.getElem?_eq_getElem (by omega)]
  rfl
theorem ok_let_down (T : Tx K mg) : FnOk P w K mg base (L2.CX P w) 4 T.a_let_down T.d_let_down ["parting", "first", "second"] (sp_let_down K T.C_NoFit) := by
  refine T.F_let_down.okX sc_let_down (fun vs H Q E h => ?_) (fun cdv A outer s H vs Q E hr h => ?_)
  · obtain ⟨a, ns, x, y, rfl, _⟩ := h
    rfl
  · obtain ⟨a, ns, x, y, rfl, hL, hp, hx, hy, qn, qs⟩ := h
    refine ⟨_, (pss_cons (ps_expr (pe_call (ok_check_parting T) (hr.mono (by decide)) (by rfl) T.g_check_parting T.F_check_parting.kp T.b_check_parting .nil pass0 (pa_cons (pv 0) pa_nil)))
    (pss_cons (ps_if (pt_not (pt_val (pe_call (ok_are_places T) (hr.mono (by decide)) (by rfl) T.g_are_places T.F_are_places.kp T.b_are_places .nil pass0 (pa_cons (pv 0) (pa_cons (pv 1) (pa_cons (pv 2) pa_nil))))))
      (pss_one (ps_raise rfl (takes_of rfl rfl rfl rfl) (pmk_own PySem.F.excBase_ValueError T.x_NoFit T.g_NoFit T.k_NoFit (raises_own T.s_NoFit T.t_NoFit) rfl)))
      pss_nil)
    (pss_cons (ps_set (i := 3) sc_let_down.nd rfl (Or.inl rfl) (pe_lst (StX.pa_star (pv 0) (pa_cons pe_int pa_nil))))
    (pss_cons (ps_augL (K := K) rfl (pv 3) (pv 1) pe_int ip_sub)
    (pss_cons (ps_augL (K := K) rfl (pv 3) (pv 2) pe_int ip_add)
    (pss_cut (ps_if (pt_cmpR op_eq (pe_ix (ixlK (K := K) rfl) (pv 3) (pe_un un_neg pe_int) (fun _ _ => rfl)) pe_int (nomark _))
      (pss_one (ps_expr (pe_bm0 PySem.F.plainAttrs_list PySem.F.slot_list_pop PySem.F.type_list_pop mt_pop (pv 3))))
      pss_nil)
    (pss_cons (ps_if (pt_not (pt_val (pe_call (ok_is_parting T) (hr.mono (by decide)) (by rfl) T.g_is_parting T.F_is_parting.kp T.b_is_parting .nil pass0 (pa_cons (pv 3) pa_nil))))
      (pss_one (ps_raise rfl (takes_of rfl rfl rfl rfl) (pmk_own PySem.F.excBase_ValueError T.x_NoFit T.g_NoFit T.k_NoFit (raises_own T.s_NoFit T.t_NoFit) rfl)))
      pss_nil)
    (pss_one (ps_ret (pv 3)))))))))), ?_⟩
    have hl := hp.len
    refine q_drop (ev_call (ea_cons (ev_var rfl) ea_nil) (spv_check hL hp)) fun H1 e1 => ?_
    refine q_when (et_not (et_B (ev_call (ea_cons (ev_var rfl) (ea_cons (ev_var rfl) (ea_cons (ev_var rfl) ea_nil))) (spv_are (e1 _ _ hL) (hx.mono e1) (hy.mono e1))))) (fun hb H2 e2 => ?_) (fun hb H2 e2 => ?_)
    · show E (.ref T.C_NoFit) none H2
      exact qn (ldV_no (by simpa using hb)) H2 (e1.trans e2)
    · have e12 := e1.trans e2
      obtain ⟨i, j, rfl, rfl, hij, hj⟩ := arePl_iff.mp (show arePl ns.length x y = true by simpa using hb)
      rw [ldV_at ⟨hij, hj⟩] at qn qs
      -- parts = [*parting, 0]
      refine q_asgL (xs := (ns ++ [0]).map V.int) (el_is (el_lst (ea_star (ev_var rfl) (Ll.sq (e12 _ _ hL)) (ea_cons ev_c ea_nil)) (by rw [List.length_append, List.length_map]; show ns.length + 1 ≤ 100000; omega)) (by rw [List.map_append]; rfl)) fun p H3 np e3 hp3 => ?_
      have nH : H p = none := fresh_back e12 np
      have l1 : (ns ++ [0]).length = ns.length + 1 := by rw [List.length_append]; rfl
      have g1 : (ns ++ [0])[i]? = some ((ns ++ [0]).getD i 0) := get_getD (by omega)
      refine q_augL (ev_var rfl) (ev_var rfl) ev_c hp3 g1 fun H4 e4 => ?_
      have m4 : Ex H (upd H4 p (.lst (((ns ++ [0]).set i ((ns ++ [0]).getD i 0 - 1)).map V.int))) := ((e12.trans e3).trans e4).mut nH
      have g2 : ((ns ++ [0]).set i ((ns ++ [0]).getD i 0 - 1))[j]? = some (((ns ++ [0]).set i ((ns ++ [0]).getD i 0 - 1)).getD j 0) := get_getD (by rw [List.length_set]; omega)
      refine q_augL (ev_var rfl) (ev_var rfl) ev_c upd_same g2 fun H5 e5 => ?_
      generalize hr5 : ((ns ++ [0]).set i ((ns ++ [0]).getD i 0 - 1)).set j (((ns ++ [0]).set i ((ns ++ [0]).getD i 0 - 1)).getD j 0 + 1) = r
      have er : moved ns i j = r := hr5
      have lr : r.length = ns.length + 1 := by rw [← er]; exact moved_len ns i j
      rw [er] at qn qs
      have m5 : Ex H (upd H5 p (.lst (r.map V.int))) := (m4.trans e5).mut nH
      generalize hH6 : upd H5 p (.lst (r.map V.int)) = H6 at m5
      have hp6 : Ll H6 p r := by rw [← hH6]; exact upd_same
      have glast := getLastD_cut lr
      have gat : atI (r.map V.int) (-1) = some (.int (r.getLastD 1)) := by
        have hne : r ≠ [] := fun z => by rw [z] at lr; cases lr
        have e := List.dropLast_concat_getLast hne
        have e2 : r.getLastD 1 = r.getLast hne := by rw [List.getLastD_eq_getLast?, List.getLast?_eq_getLast hne]; rfl
        have key := at_back r.dropLast (r.getLast hne)
        rw [e] at key
        rw [e2]
        exact key
      refine q_cut (M := fun σ' H' => σ' = [some (.ref a), some (.int (i : Int)), some (.int (j : Int)), some (.ref p)] ∧ Ex H H' ∧ Ll H' p (cutz r)) (s_when (b := decide (V.int (r.getLastD 1) = V.int 0)) (et_test (ev_eq (ev_op (ev_var rfl) (ev_un ev_c ru_neg) (rv_ixL hp6.sq gat)) ev_c rfl)) (fun hz H7 e7 => ?_) (fun hz H7 e7 => ?_)) fun σ' H' hM => ?_
      · have hz0 : r.getLastD 1 = 0 := V.int.inj (of_decide_eq_true hz)
        refine s_pop (w := V.int 0) (ev_var rfl) (e7 _ _ hp6) (by rw [List.length_map, List.getElem?_map, lr, Nat.add_sub_cancel, glast, hz0]; rfl) fun H8 e8 => ⟨rfl, ((m5.trans e7).trans e8).mut nH, ?_⟩
        show upd H8 p _ p = _
        rw [upd_same, cutz, if_pos hz0, List.map_dropLast]
      · have hz0 : ¬ r.getLastD 1 = 0 := fun z => by rw [z] at hz; simp at hz
        refine ⟨rfl, m5.trans e7, ?_⟩
        show H7 p = _
        rw [cutz, if_neg hz0]
        exact e7 _ _ hp6
      · obtain ⟨rfl, m7, hp7⟩ := hM
        refine q_when (et_not (et_B (ev_call (ea_cons (ev_var rfl) ea_nil) (spv_is_parting hp7)))) (fun hb H8 e8 => ?_) (fun hb H8 e8 => ?_)
        · show E (.ref T.C_NoFit) none H8
          have hb' : isPart (cutz r) = false := by simpa using hb
          rw [hb'] at qn
          exact qn rfl H8 (m7.trans e8)
        · have hb' : isPart (cutz r) = true := by simpa using hb
          rw [hb'] at qs
          exact s_ret (ev_var rfl) fun H9 e9 => qs _ rfl p H9 nH ((m7.trans e8).trans e9) ((e8.trans e9) _ _ hp7)
end
/-! ### _law_pair_by: two partings of one whole -/
theorem desc_adj : ∀ {l : List Int}, (∀ t, t + 1 < l.length → l.getD (t + 1) 0 ≤ l.getD t 0) → l.Pairwise (fun a b => b ≤ a) := fun {l} step => by
  have far : ∀ d i, i + d < l.length → l.getD (i + d) 0 ≤ l.getD i 0 := by
    intro d
    induction d with
    | zero => exact fun i _ => Int.le_refl _
    | succ d ih =>
      intro i hi
      have h1 := ih i (by omega)
      have h2 := step (i + d) (by omega)
      rw [show i + (d + 1) = i + d + 1 by omega]
      omega
  rw [List.pairwise_iff_getElem]
  intro i j hi hj hij
  have h1 := far (j - i) i (by omega)
  rw [show i + (j - i) = j by omega] at h1
  simpa [List.getD, hi, hj] using h1
theorem sum_pos : ∀ {l : List Int}, (∀ x ∈ l, 0 ≤ x) → (l.filter fun z => decide (0 < z)).sum = l.sum
  | [], _ => rfl
  | x :: r, h => by
    have h1 := h x List.mem_cons_self
    have ih := sum_pos (l := r) fun y hy => h y (List.mem_cons_of_mem _ hy)
    rw [List.filter_cons]
    by_cases c : 0 < x
    · rw [if_pos (by simpa using c), List.sum_cons, List.sum_cons, ih]
    · rw [if_neg (by simpa using c), List.sum_cons, ih]
      omega
/-- a row of parts from 0 on that don't rise, its noughts left out -/
theorem pos_ok {l : List Int} (h0 : ∀ x ∈ l, 0 ≤ x) (hd : l.Pairwise (fun a b => b ≤ a)) (hs : l.sum ≤ 200) : IsP (l.filter fun z => decide (0 < z)) := by
  refine ⟨fun x hx => ?_, hd.filter _, by rw [sum_pos h0]; exact hs⟩
  have := (List.mem_filter.mp hx).2
  simp at this
  omega
theorem moved_nn {ns : List Int} {i j : Nat} (hp : IsP ns) (hi : i < ns.length) (hij : i < j) (hj : j ≤ ns.length) : ∀ x ∈ moved ns i j, 0 ≤ x := fun x hx => by
  obtain ⟨k, hk, rfl⟩ := mem_getD hx
  rw [moved_len] at hk
  rw [moved_get hij hj]
  have nn : 0 ≤ (ns ++ [0]).getD k 0 := by
    by_cases c : k < ns.length
    · rw [front_get c]
      have := hp.1 ns[k] (List.getElem_mem c)
      omega
    · rw [show k = ns.length by omega, back_get]
      exact Int.le_refl _
  by_cases c : k = i
  · rw [if_pos c, c, front_get hi]
    have := hp.1 ns[i] (List.getElem_mem hi)
    omega
  · rw [if_neg c]
    split <;> omega
theorem ones_flat (n : Nat) : (List.replicate n [V.int 1]).flatten = (List.replicate n (1 : Int)).map V.int := by
  induction n with
  | zero => rfl
  | succ n ih => rw [List.replicate_succ, List.flatten_cons, ih, List.replicate_succ]; rfl
theorem sum_ones (n : Nat) : (List.replicate n (1 : Int)).sum = (n : Int) := by
  induction n with
  | zero => rfl
  | succ n ih => rw [List.replicate_succ, List.sum_cons, ih]; omega
theorem ones_ok {ys : List Int} {n : Nat} (hp : IsP ys) (hs : ys.sum + (n : Int) ≤ 200) : IsP (ys ++ List.replicate n 1) := by
  refine ⟨fun x hx => ?_, ?_, by rw [sum_append, sum_ones]; exact hs⟩
  · rcases List.mem_append.mp hx with h | h
    · exact hp.1 x h
    · rw [(List.mem_replicate.mp h).2]
      exact Int.le_refl _
  · refine List.pairwise_append.mpr ⟨hp.2.1, ?_, fun a ha b hb => ?_⟩
    · exact List.pairwise_replicate.mpr (.inr (Int.le_refl _))
    · rw [(List.mem_replicate.mp hb).2]
      exact hp.1 a ha
theorem head_ok {y : Int} {r : List Int} {n : Int} (hp : IsP (y :: r)) (hn : 0 ≤ n) (hs : (y :: r).sum + n ≤ 200) : IsP ((y + n) :: r) := by
  obtain ⟨h1, h2, h3⟩ := hp
  rw [List.pairwise_cons] at h2
  rw [List.sum_cons] at hs h3
  refine ⟨fun x hx => ?_, List.pairwise_cons.mpr ⟨fun b hb => ?_, h2.2⟩, ?_⟩
  · rcases List.mem_cons.mp hx with e | h
    · have := h1 y List.mem_cons_self
      omega
    · exact h1 x (List.mem_cons_of_mem _ h)
  · have := h2.1 b hb
    omega
  · rw [List.sum_cons]
    omega
theorem cut_tail (xs : List V) : cutV xs (some 1) none = xs.drop 1 := by
  unfold cutV HT.sIx
  cases xs with
  | nil => rfl
  | cons x r =>
    simp
section
variable {P : Program} {w : World} {K : PySem.W.Frag} {mg : Str → Option Value} {base : Heap}
/-- a pair of partings of one whole, all new -/
def RetPair (H : Hp) (Q : VK) : Prop := ∀ (p1 p2 t : Addr) (xs ys : List Int) (H2 : Hp), H p1 = none → H p2 = none → H t = none → Ex H H2 → Ll H2 p1 xs → Ll H2 p2 ys → H2 t = some (.tup [.ref p1, .ref p2]) → IsP xs → IsP ys → xs.sum = ys.sum → Q (.ref t) H2
def sp_law_pair_by (K : PySem.W.Frag) : Sp := fun vs H Q _ => ∃ (a : Addr) (ns : List Int), vs = [.ref a] ∧ SqL K H a (ns.map V.int) ∧ ns.length ≤ 63 ∧ RetPair H Q
theorem ok_law_pair_by (T : Tx K mg) : FnOk P w K mg base CX0 4 T.a_law_pair_by T.d_law_pair_by ["_law_script"] (sp_law_pair_by K) := by
  refine T.F_law_pair_by.ok sc_law_pair_by (fun vs H Q E h => ?_) (fun cdv A outer s H vs Q E hr h => ?_)
  · obtain ⟨a, ns, rfl, _⟩ := h
    rfl
  · obtain ⟨a, ns, rfl, hS, hlen, q⟩ := h
    refine ⟨_, (pss_cons (ps_set (i := 1) sc_law_pair_by.nd rfl (Or.inl rfl) (pe_call (ok_law_parting_by T) (hr.mono (by decide)) (by rfl) T.g_law_parting_by T.F_law_parting_by.kp T.b_law_parting_by .nil pass0 (pa_cons (pv 0) (pa_cons pe_int pa_nil))))
    (pss_cons (ps_set (i := 2) sc_law_pair_by.nd rfl (Or.inl rfl) (pe_call (ok_law_number T) (hr.mono (by decide)) (by rfl) T.g_law_number T.F_law_number.kp T.b_law_number .nil pass0 (pa_cons (pv 0) (pa_cons pe_int pa_nil))))
    (pss_cut (ps_if (pt_cmpR op_gt (pe_op op_mod (pv 2) pe_int) pe_int (nomark _))
      (pss_cons (ps_set (i := 3) sc_law_pair_by.nd rfl (Or.inl rfl) (pe_call (ok_law_parting_by T) (hr.mono (by decide)) (by rfl) T.g_law_parting_by T.F_law_parting_by.kp T.b_law_parting_by .nil pass0 (pa_cons (pv 0) (pa_cons pe_int pa_nil))))
      (pss_cons (ps_set (i := 4) sc_law_pair_by.nd rfl (Or.inl rfl) (pe_op op_sub (pe_callB (sumK (K := K) rfl rfl) (by rfl) T.n_sum (by decide +kernel) (pa_cons (pv 1) pa_nil)) (pe_callB (sumK (K := K) rfl rfl) (by rfl) T.n_sum (by decide +kernel) (pa_cons (pv 3) pa_nil))))
      (pss_cut (ps_if (pt_cmpR op_lt (pv 4) pe_int (nomark _))
        (pss_one (ps_par (i := 1) (j := 3) (by rfl) sc_law_pair_by.nd rfl rfl (by decide) rfl rfl (pa_cons (pv 3) (pa_cons (pv 1) pa_nil)) (by rfl)))
        pss_nil)
      (pss_cons (ps_set (i := 4) sc_law_pair_by.nd rfl (Or.inl rfl) (pe_callB call_abs (by rfl) T.n_abs (by decide +kernel) (pa_cons (pv 4) pa_nil)))
      (pss_one (ps_if (PW.pt (pw_or (pt_cmpR op_eq (pe_op op_mod (pe_op op_fdiv (pv 2) pe_int) pe_int) pe_int (nomark _)) (pw_or1 (pt_cmpR (eqK (K := K) rfl hr.units) (pv 3) (pe_lst pa_nil) (nomark _)))))
        (pss_one (ps_set (i := 3) sc_law_pair_by.nd rfl (Or.inl rfl) (pe_op op_cat (pv 3) (pe_op op_rep (pe_lst (pa_cons pe_int pa_nil)) (pv 4)))))
        (pss_one (ps_set (i := 3) sc_law_pair_by.nd rfl (Or.inl rfl) (pe_op op_cat (pe_lst (pa_cons (pe_op op_add (pe_ix (ixlK (K := K) rfl) (pv 3) pe_int (fun _ _ => rfl)) (pv 4)) pa_nil)) (pe_slice (sllK (K := K) rfl) (pv 3) (po_some pe_int) po_none))))))))))
      (pss_cons (ps_set (i := 3) sc_law_pair_by.nd rfl (Or.inl rfl) (pe_callTy (listK (K := K) rfl) (by rfl) T.n_list (by decide +kernel) (pa_cons (pv 1) pa_nil)))
      (pss_one (ps_for PassesOwn.never rfl (pi_range1 rfl T.n_range (pa_cons (pe_op op_mod (pe_op op_fdiv (pv 2) pe_int) pe_int) pa_nil)) (pg_name (i := 5) sc_law_pair_by.nd rfl (Or.inl rfl))
        (pss_cons (ps_set (i := 6) sc_law_pair_by.nd rfl (Or.inl rfl) (pe_op op_mod (pe_call (ok_law_number T) (hr.mono (by decide)) (by rfl) T.g_law_number T.F_law_number.kp T.b_law_number .nil pass0 (pa_cons (pv 0) (pa_cons (pe_op op_add pe_int (pv 5)) pa_nil))) (pe_op op_add (pe_callB (lenK (K := K) rfl) (by rfl) T.n_len PySem.boot_len (pa_cons (pv 3) pa_nil)) pe_int)))
        (pss_cons (ps_set (i := 7) sc_law_pair_by.nd rfl (Or.inl rfl) (pe_op op_add (pe_op op_add (pv 6) pe_int) (pe_op op_mod (pe_call (ok_law_number T) (hr.mono (by decide)) (by rfl) T.g_law_number T.F_law_number.kp T.b_law_number .nil pass0 (pa_cons (pv 0) (pa_cons (pe_op op_add pe_int (pv 5)) pa_nil))) pe_int)))
        (pss_cons (ps_set (i := 8) sc_law_pair_by.nd rfl (Or.inr rfl) (pe_op op_cat (pv 3) (pe_lst (pa_cons pe_int pa_nil))))
        (pss_one (ps_if (PW.pt (pw_and (pt_cmpR op_lt (pv 6) (pe_callB (lenK (K := K) rfl) (by rfl) T.n_len PySem.boot_len (pa_cons (pv 3) pa_nil)) (nomark _)) (pw_and1 (pt_cmpR op_lt (pv 7) (pe_callB (lenK (K := K) rfl) (by rfl) T.n_len PySem.boot_len (pa_cons (pv 8) pa_nil)) (nomark _)))))
          (pss_cons (ps_asg (pe_op op_sub (pe_ix (ixlK (K := K) rfl) (pv 8) (pv 6) (fun _ _ => rfl)) pe_int) (pg_sub (pv 8) (pv 6) set_list))
          (pss_cons (ps_asg (pe_op op_add (pe_ix (ixlK (K := K) rfl) (pv 8) (pv 7) (fun _ _ => rfl)) pe_int) (pg_sub (pv 8) (pv 7) set_list))
          (pss_one (ps_if (pt_val (pe_callB (allK (K := K) rfl rfl) (by rfl) T.n_all (by decide +kernel) (pa_cons (pe_lc (own := [("_law_j", 9)]) (g := gName 9) (by rfl) sc_law_pair_by.nd (pi_range2 (by rfl) T.n_range (pa_cons pe_int (pa_cons (pe_callB (lenK (K := K) rfl) (by rfl) T.n_len PySem.boot_len (pa_cons (pv 8) pa_nil)) pa_nil))) (blkOk_by (own := [("_law_j", 9)]) (N := ["_law_script", "_law_one", "_law_number_here", "_law_other", "_law_less", "_law_k", "_law_at", "_law_far", "_law_row", "_law_j", "_law_part"]) (sc := defScope s_law_pair_by) (by decide +kernel)) (fun _ _ _ _ _ => (pg_name (i := 9) sc_law_pair_by.nd rfl (Or.inl rfl))) (fun _ _ _ _ _ => pts_nil) (fun _ _ _ _ _ => (pe_cmpR op_le (pe_ix (ixlK (K := K) rfl) (pv 8) (pv 9) (fun _ _ => rfl)) (pe_ix (ixlK (K := K) rfl) (pv 8) (pe_op op_sub (pv 9) pe_int) (fun _ _ => rfl)) (nomark _)))) pa_nil)))
            (pss_one (ps_setLc (i := 3) (own := [("_law_part", 10)]) (g := gName 10) (by rfl) sc_law_pair_by.nd rfl rfl (sw_true rfl rfl rfl (by decide +kernel)) (pi_list (pv 8)) (blkOk_by (own := [("_law_part", 10)]) (N := ["_law_script", "_law_one", "_law_number_here", "_law_other", "_law_less", "_law_k", "_law_at", "_law_far", "_law_row", "_law_j", "_law_part"]) (sc := defScope s_law_pair_by) (by decide +kernel)) (fun _ _ _ _ _ => (pg_name (i := 10) sc_law_pair_by.nd rfl (Or.inl rfl))) (fun _ _ _ _ _ => pts_one (pt_cmpR op_gt (pv 10) pe_int (nomark _))) (fun _ _ _ _ _ => (pv 10))))
            pss_nil))))
          pss_nil)))))))))
    (pss_cons (ps_if (pt_cmpR op_eq (pe_op op_mod (pe_op op_fdiv (pv 2) pe_int) pe_int) pe_int (nomark _))
      (pss_one (ps_ret (pe_tup (pa_cons (pv 3) (pa_cons (pv 1) pa_nil)))))
      pss_nil)
    (pss_one (ps_ret (pe_tup (pa_cons (pv 1) (pa_cons (pv 3) pa_nil))))))))), ?_⟩
    refine q_asgP (evP_parting (ea_cons (ev_var rfl) (ea_cons ev_c ea_nil)) hS hlen (by decide) (by decide)) fun v H1 e1 hv => ?_
    obtain ⟨p, xs, rfl, np, hp, ix⟩ := hv
    have lx := ix.len
    refine q_asg (ev_call (ea_cons (ev_var rfl) (ea_cons ev_c ea_nil)) (spv_number (ex_l e1 hS) (by decide) (by decide))) fun H2 e2 => ?_
    have n0 := numb_nn ns 1
    generalize numb ns 1 = n at n0 ⊢
    have e12 := e1.trans e2
    have hp2 := e2 _ _ hp
    refine q_cut (M := fun σ' H' => ∃ (p1 p2 : Addr) (us ws : List Int) (y4 y5 y6 y7 y8 : Option V), σ' = [some (.ref a), some (.ref p1), some (.int n), some (.ref p2), y4, y5, y6, y7, y8, none, none] ∧ Ex H H' ∧ H p1 = none ∧ H p2 = none ∧ Ll H' p1 us ∧ Ll H' p2 ws ∧ IsP us ∧ IsP ws ∧ us.sum = ws.sum)
      (s_if (b := decide (0 < n % 3)) (et_test (ev_rI0 (ev_rI (ev_var rfl) ev_c (by decide)) ev_c)) (fun _ H3 e3 => ?_) (fun _ H3 e3 => ?_)) fun σ' H' hM => ?_
    · -- another parting, raised to the same whole
      have e13 := e12.trans e3
      refine q_asgP (evP_parting (ea_cons (ev_var rfl) (ea_cons ev_c ea_nil)) (ex_l e13 hS) hlen (by decide) (by decide)) fun v H4 e4 hv => ?_
      obtain ⟨o, ys, rfl, no, ho, iy⟩ := hv
      have no0 : H o = none := fresh_back e13 no
      have hp4 := e4 _ _ (e3 _ _ hp2)
      refine q_asg (ev_rI0 (ev_cb (ea_cons (ev_var rfl) ea_nil) (rc_sum (Ll.sq hp4))) (ev_cb (ea_cons (ev_var rfl) ea_nil) (rc_sum ho.sq))) fun H5 e5 => ?_
      refine q_cut (M := fun σ' H' => ∃ (p1 p2 : Addr) (us ws : List Int) (d : Int), σ' = [some (.ref a), some (.ref p1), some (.int n), some (.ref p2), some (.int d), none, none, none, none, none, none] ∧ Ex H H' ∧ H p1 = none ∧ H p2 = none ∧ Ll H' p1 us ∧ Ll H' p2 ws ∧ IsP us ∧ IsP ws ∧ ws.sum ≤ us.sum ∧ (if d < 0 then -d else d) = us.sum - ws.sum)
        (s_when (b := decide (xs.sum - ys.sum < 0)) (et_test (ev_rI0 (ev_var rfl) ev_c)) (fun hb H6 e6 => ?_) (fun hb H6 e6 => ?_)) fun σ' H' hM => ?_
      · have hb' := of_decide_eq_true hb
        refine (ea_cons (ev_var rfl) (ea_cons (ev_var rfl) ea_nil)) H6 (Ex.refl H6) _ fun H7 e7 => ⟨_, _, rfl, o, p, ys, xs, xs.sum - ys.sum, rfl, (((e13.trans e4).trans e5).trans e6).trans e7, no0, np, ((e5.trans e6).trans e7) _ _ ho, ((e5.trans e6).trans e7) _ _ hp4, iy, ix, by omega, ?_⟩
        rw [if_pos hb']
        omega
      · have hb' := of_decide_eq_false hb
        refine ⟨p, o, xs, ys, xs.sum - ys.sum, rfl, ((e13.trans e4).trans e5).trans e6, np, no0, (e5.trans e6) _ _ hp4, (e5.trans e6) _ _ ho, ix, iy, by omega, ?_⟩
        rw [if_neg hb']
      · obtain ⟨p1, p2, us, ws, d, rfl, eH, n1, n2, h1, h2, iu, iw, hle, hd⟩ := hM
        have lu := iu.len
        have lw := iw.len
        have su := iu.2.2
        have sw := len_le_sum iw.1
        refine q_asg (ev_cb (ea_cons (ev_var rfl) ea_nil) (fun H1 _ _ q => ⟨d, rfl, q H1 (Ex.refl H1)⟩)) fun H7 e7 => ?_
        rw [hd]
        have h17 := e7 _ _ h1
        have h27 := e7 _ _ h2
        refine s_if (b := decide (n / 3 % 2 = 1) || decide (ws = [])) (et_or (et_is (et_test (ev_eq (ev_rI (ev_rI (ev_var rfl) ev_c ⟨by decide, by decide⟩) ev_c (by decide)) ev_c rfl)) (by simp)) fun _ => et_test (ev_opL (ev_var rfl) (el_lst (vs := []) ea_nil (by decide)) fun z H8 hz e8 => rv_eqL (ys := []) (ex_l e8 (Ll.sq h27)) (sq_of hz))) (fun _ H8 e8 => ?_) (fun hb H8 e8 => ?_)
        · refine s_asgL (el_is (el_catR (zs := ws.map V.int) (ev_var rfl) (el_is (el_rep (el_lst (ea_cons ev_c ea_nil) (by show 1 ≤ 100000; decide)) (ev_var rfl) ⟨by omega, by omega⟩ (by show 1 * _ ≤ _; omega)) (ones_flat _)) (e8 _ _ h27) (by rw [List.length_map, List.length_map, List.length_replicate]; omega)) (List.map_append (f := V.int)).symm) fun z H9 nz e9 hz => ?_
          have hs' : ws.sum + (((us.sum - ws.sum).toNat : Nat) : Int) = us.sum := by omega
          exact ⟨p1, z, us, ws ++ List.replicate (us.sum - ws.sum).toNat 1, _, _, _, _, _, rfl, eH.trans ((e7.trans e8).trans e9), n1, fresh_back (eH.trans (e7.trans e8)) nz, (e8.trans e9) _ _ h17, hz, iu, ones_ok iw (by omega), by rw [sum_append, sum_ones]; omega⟩
        · have hb' : ws ≠ [] := fun z => by rw [z] at hb; simp at hb
          obtain ⟨y, r, rfl⟩ := List.exists_cons_of_ne_nil hb'
          refine s_asgL (el_is (el_catNN (zs := [V.int (y + (us.sum - (y :: r).sum))]) (ws := r.map V.int) (el_lst (ea_cons (ev_rI0 (ev_ixJ (j := 0) (ev_var rfl) ev_c (Ll.sq (e8 _ _ h27)) (by simp)) (ev_var rfl)) ea_nil) (by show 1 ≤ 100000; decide)) (el_is (el_sl (ev_var rfl) (eo_some ev_c) eo_none (Ll.sq (e8 _ _ h27))) (cut_tail _)) (by rw [List.length_map]; simp at lw ⊢; omega)) (zs := _) (ws := ((y + (us.sum - (y :: r).sum)) :: r).map V.int) rfl) fun z H9 nz e9 hz => ?_
          exact ⟨p1, z, us, _, _, _, _, _, _, rfl, eH.trans ((e7.trans e8).trans e9), n1, fresh_back (eH.trans (e7.trans e8)) nz, (e8.trans e9) _ _ h17, hz, iu, head_ok iw (by omega) (by omega), by rw [List.sum_cons, List.sum_cons]; omega⟩
    · -- the same parting, boxes moved
      refine q_asgL (el_cb (ea_cons (ev_var rfl) ea_nil) (rcl_list (Ll.sq (e3 _ _ hp2)))) fun o H4 no e4 ho => ?_
      have e14 := (e12.trans e3).trans e4
      have no0 : H o = none := fresh_back (e12.trans e3) no
      have hp4 := e4 _ _ (e3 _ _ hp2)
      refine s_forR1 (n := n / 3 % 5) (ea_cons (ev_rI (ev_rI (ev_var rfl) ev_c ⟨by decide, by decide⟩) ev_c (by decide)) ea_nil) ⟨by omega, by omega⟩
        (fun k σ' H' => ∃ (o : Addr) (zs : List Int) (y5 y6 y7 y8 : Option V), σ' = [some (.ref a), some (.ref p), some (.int n), some (.ref o), none, y5, y6, y7, y8, none, none] ∧ Ex H4 H' ∧ H o = none ∧ Ll H' o zs ∧ IsP zs ∧ zs.sum = xs.sum)
        (fun H5 e5 => ⟨o, xs, none, none, none, none, rfl, e5, no0, e5 _ _ ho, ix, rfl⟩) (fun k σ' H' hk hP => ?_) (fun σ' H' hP => ?_)
      · obtain ⟨o, zs, y5, y6, y7, y8, rfl, eH, no0, ho, iz, hsum⟩ := hP
        have lz := iz.len
        have hS' := ex_l (e14.trans eH) hS
        have hk5 : k < 5 := by omega
        have elz : ((zs.map V.int).length : Int) = (zs.length : Int) := by rw [List.length_map]
        refine q_asg (ev_rI (ev_call (ea_cons (ev_var rfl) (ea_cons (ev_rI0 ev_c (ev_var rfl)) ea_nil)) (spv_number hS' (by omega) (by omega))) (ev_rI0 (ev_cb (ea_cons (ev_var rfl) ea_nil) (rc_len ho.sq)) ev_c) (by rw [elz]; omega)) fun H5 e5 => ?_
        rw [elz]
        have a0 : 0 ≤ numb ns (200 + (k : Int)) % ((zs.length : Int) + 1) := Int.emod_nonneg _ (by omega)
        obtain ⟨i, hi⟩ := Int.eq_ofNat_of_zero_le a0
        rw [hi]
        have b0 := numb_nn ns (210 + (k : Int))
        refine q_asg (ev_rI0 (ev_rI0 (ev_var rfl) ev_c) (ev_rI (ev_call (ea_cons (ev_var rfl) (ea_cons (ev_rI0 ev_c (ev_var rfl)) ea_nil)) (spv_number (ex_l e5 hS') (by omega) (by omega))) ev_c (by decide))) fun H6 e6 => ?_
        have b1 : 0 ≤ numb ns (210 + (k : Int)) % 4 := by omega
        obtain ⟨j, hj⟩ := Int.eq_ofNat_of_zero_le (show 0 ≤ (i : Int) + 1 + numb ns (210 + (k : Int)) % 4 by omega)
        rw [hj]
        have hij : i < j := by omega
        have e56 := e5.trans e6
        refine q_asgL (xs := (zs ++ [0]).map V.int) (el_is (el_catR (ev_var rfl) (el_lst (ea_cons ev_c ea_nil) (by show 1 ≤ 100000; decide)) (e56 _ _ ho) (by rw [List.length_map]; show zs.length + 1 ≤ 100000; omega)) (by rw [List.map_append]; rfl)) fun r H7 nr e7 hr7 => ?_
        have nr' : H' r = none := fresh_back e56 nr
        have nrH : H4 r = none := fresh_back eH nr'
        have e57 := e56.trans e7
        have elr : (((zs ++ [0]).map V.int).length : Int) = (zs.length : Int) + 1 := by simp
        refine s_when (b := decide ((i : Int) < (zs.length : Int)) && decide ((j : Int) < (zs.length : Int) + 1)) (et_and (et_is (et_test (ev_rI0 (ev_var rfl) (ev_cb (ea_cons (ev_var rfl) ea_nil) (rc_len (Ll.sq (e57 _ _ ho)))))) (by rw [elz])) fun _ => et_is (et_test (ev_rI0 (ev_var rfl) (ev_cb (ea_cons (ev_var rfl) ea_nil) (rc_len (sq_of hr7))))) (by rw [elr])) (fun hb H8 e8 => ?_) (fun _ H8 e8 => ?_)
        · simp only [Bool.and_eq_true, decide_eq_true_eq] at hb
          have hi' : i < zs.length := by omega
          have hj' : j ≤ zs.length := by omega
          have l1 : (zs ++ [0]).length = zs.length + 1 := by simp
          have hr8 : Ll H8 r (zs ++ [0]) := e8 _ _ hr7
          refine q_setL hr8 (ev_rI0 (ev_ixJ (ev_var rfl) (ev_var rfl) hr8.sq (by omega)) ev_c) (ev_var rfl) (ev_var rfl) (by rw [List.length_map]; omega) fun H9 e9 => ?_
          rw [← List.map_set]
          have m9 : Ex H' (upd H9 r (.lst (((zs ++ [0]).set i ((zs ++ [0]).getD i 0 - 1)).map V.int))) := ((e57.trans e8).trans e9).mut nr'
          have hr9 : Ll (upd H9 r (.lst (((zs ++ [0]).set i ((zs ++ [0]).getD i 0 - 1)).map V.int))) r ((zs ++ [0]).set i ((zs ++ [0]).getD i 0 - 1)) := upd_same
          generalize upd H9 r (.lst (((zs ++ [0]).set i ((zs ++ [0]).getD i 0 - 1)).map V.int)) = G at m9 hr9
          refine q_setL hr9 (ev_rI0 (ev_ixJ (ev_var rfl) (ev_var rfl) hr9.sq (by rw [List.length_set]; omega)) ev_c) (ev_var rfl) (ev_var rfl) (by rw [List.length_map, List.length_set]; omega) fun G2 e10 => ?_
          rw [← List.map_set]
          have er : ((zs ++ [0]).set i ((zs ++ [0]).getD i 0 - 1)).set j (((zs ++ [0]).set i ((zs ++ [0]).getD i 0 - 1)).getD j 0 + 1) = moved zs i j := rfl
          rw [er]
          have m10 : Ex H' (upd G2 r (.lst ((moved zs i j).map V.int))) := (m9.trans e10).mut nr'
          have hr10 : Ll (upd G2 r (.lst ((moved zs i j).map V.int))) r (moved zs i j) := upd_same
          generalize upd G2 r (.lst ((moved zs i j).map V.int)) = G3 at m10 hr10
          have ml := moved_len zs i j
          have elm : (((moved zs i j).map V.int).length : Int) = ((moved zs i j).length : Int) := by rw [List.length_map]
          refine s_when (b := ((List.range (((moved zs i j).length : Int) - 1).toNat).map fun t => decide ((moved zs i j).getD (t + 1) 0 ≤ (moved zs i j).getD t 0)).all id)
            (et_B (ev_cbL (el_is (el_lcR2A (lo := 1) (n := ((moved zs i j).length : Int)) (fun t => V.bl (decide ((moved zs i j).getD (t + 1) 0 ≤ (moved zs i j).getD t 0))) (ea_cons ev_c (ea_cons (ev_is (ev_cb (ea_cons (ev_var rfl) ea_nil) (rc_len hr10.sq)) (by rw [elm])) ea_nil)) ⟨by decide, by decide, by omega, by omega⟩ (fun _ => rfl)
              fun t G4 e11 ht => ?_) (show _ = ((List.range (((moved zs i j).length : Int) - 1).toNat).map fun t => decide ((moved zs i j).getD (t + 1) 0 ≤ (moved zs i j).getD t 0)).map V.bl from (List.map_map).symm)) fun z G4 _ hz => rc_all (sq_of hz))) (fun hb2 G4 e11 => ?_) (fun _ G4 e11 => ?_)
          · have e1t : (1 : Int) + (t : Int) = ((t + 1 : Nat) : Int) := by omega
            rw [e1t]
            refine ev_rI0 (ev_ixJ (j := t + 1) (ev_var rfl) (ev_var rfl) (Ll.sq (e11 _ _ hr10)) (by omega)) (ev_ixJ (j := t) (ev_var rfl) (ev_is (ev_rI0 (ev_var rfl) ev_c) ?_) (Ll.sq (e11 _ _ hr10)) (by omega))
            rw [show ((t + 1 : Nat) : Int) - 1 = (t : Int) by omega]
          · have hd : (moved zs i j).Pairwise (fun a b => b ≤ a) := desc_adj fun t ht => by
              rw [List.all_eq_true] at hb2
              have := hb2 (decide ((moved zs i j).getD (t + 1) 0 ≤ (moved zs i j).getD t 0)) (List.mem_map.mpr ⟨t, List.mem_range.mpr (by omega), rfl⟩)
              simpa using this
            have nn := moved_nn iz hi' hij hj'
            have ms := moved_sum hij hj'
            have sz := iz.2.2
            refine s_asgL (el_lcI (fun z => decide (0 < z)) V.int (ev_var rfl) (Ll.sq (e11 _ _ hr10)) (by omega) (fun _ => rfl) (fun z G5 _ _ => et_test (ev_rI0 (ev_var rfl) ev_c)) fun z G5 _ _ _ => ev_var rfl) fun o2 G5 no2 e12' ho2 => ?_
            have eG := (m10.trans e11).trans e12'
            exact ⟨o2, _, _, _, _, _, rfl, eH.trans eG, fresh_back (e14.trans (eH.trans (m10.trans e11))) no2, ho2, pos_ok nn hd (by omega), by rw [sum_pos nn]; omega⟩
          · exact ⟨o, zs, _, _, _, _, rfl, eH.trans (m10.trans e11), no0, (m10.trans e11) _ _ ho, iz, hsum⟩
        · exact ⟨o, zs, _, _, _, _, rfl, eH.trans (e57.trans e8), no0, (e57.trans e8) _ _ ho, iz, hsum⟩
      · obtain ⟨o, zs, y5, y6, y7, y8, rfl, eH, no0, ho, iz, hsum⟩ := hP
        exact ⟨p, o, xs, zs, _, _, _, _, _, rfl, e14.trans eH, np, no0, eH _ _ hp4, ho, ix, iz, hsum.symm⟩
    · obtain ⟨p1, p2, us, ws, y4, y5, y6, y7, y8, rfl, eH, n1, n2, h1, h2, iu, iw, hs⟩ := hM
      refine q_when (b := decide (n / 60 % 2 = 1)) (et_is (et_test (ev_eq (ev_rI (ev_rI (ev_var rfl) ev_c ⟨by decide, by decide⟩) ev_c (by decide)) ev_c rfl)) (by simp)) (fun _ H7 e7 => ?_) (fun _ H7 e7 => ?_)
      · exact s_retU (eu_tup (ea_cons (ev_var rfl) (ea_cons (ev_var rfl) ea_nil)) (by show 2 ≤ 100000; decide)) fun t H8 nt e8 ht => q p2 p1 t ws us H8 n2 n1 (fresh_back (eH.trans e7) nt) ((eH.trans e7).trans e8) ((e7.trans e8) _ _ h2) ((e7.trans e8) _ _ h1) ht iw iu hs.symm
      · exact s_retU (eu_tup (ea_cons (ev_var rfl) (ea_cons (ev_var rfl) ea_nil)) (by show 2 ≤ 100000; decide)) fun t H8 nt e8 ht => q p1 p2 t us ws H8 n1 n2 (fresh_back (eH.trans e7) nt) ((eH.trans e7).trans e8) ((e7.trans e8) _ _ h1) ((e7.trans e8) _ _ h2) ht iu iw hs
theorem evP_pair {a : Addr} {ns : List Int} {σ : L2.St} {H : Hp} {ta : TA} {E : XK} (h : EvA ta σ H [.ref a]) (hS : SqL K H a (ns.map V.int)) (hl : ns.length ≤ 63) :
    EvP (tCall (sp_law_pair_by K) [] E ta) σ H (fun v H1 => ∃ (p1 p2 t : Addr) (xs ys : List Int), v = .ref t ∧ H p1 = none ∧ H p2 = none ∧ H t = none ∧ Ll H1 p1 xs ∧ Ll H1 p2 ys ∧ H1 t = some (.tup [.ref p1, .ref p2]) ∧ IsP xs ∧ IsP ys ∧ xs.sum = ys.sum) :=
  evP_call h fun H1 e Q q E => ⟨a, ns, rfl, ex_l e hS, hl, fun p1 p2 t xs ys H2 n1 n2 nt e2 h1 h2 ht ix iy hs => q _ _ e2 ⟨p1, p2, t, xs, ys, rfl, fresh_back e n1, fresh_back e n2, fresh_back e nt, h1, h2, ht, ix, iy, hs⟩⟩
end
/-! ### the law's own box let down -/
/-- some part is greater than the one ahead -/
def ascB (r : List Int) : Bool := ((List.range (r.length - 1)).map fun t => decide (r.getD t 0 < r.getD (t + 1) 0)).any id
def dueL (ns : List Int) (i j : Nat) : Option (List Int) := if i < j ∧ j ≤ ns.length then (if ascB (moved ns i j) = true then none else some ((moved ns i j).filter fun z => decide (0 < z))) else none
theorem ascB_false {r : List Int} : ascB r = false ↔ r.Pairwise (fun a b => b ≤ a) := by
  unfold ascB
  rw [List.any_eq_false]
  constructor
  · intro h
    have step : ∀ t, t + 1 < r.length → r.getD (t + 1) 0 ≤ r.getD t 0 := fun t ht => by
      have := h (decide (r.getD t 0 < r.getD (t + 1) 0)) (List.mem_map.mpr ⟨t, List.mem_range.mpr (by omega), rfl⟩)
      simp only [id, decide_eq_true_eq] at this
      omega
    have far : ∀ d i, i + d < r.length → r.getD (i + d) 0 ≤ r.getD i 0 := by
      intro d
      induction d with
      | zero => exact fun i _ => Int.le_refl _
      | succ d ih =>
        intro i hi
        have h1 := ih i (by omega)
        have h2 := step (i + d) (by omega)
        have e : i + (d + 1) = i + d + 1 := by omega
        rw [e]
        omega
    rw [List.pairwise_iff_getElem]
    intro i j hi hj hij
    have h1 := far (j - i) i (by omega)
    rw [show i + (j - i) = j by omega] at h1
    simpa [List.getD, hi, hj] using h1
  · intro h b hb
    obtain ⟨t, ht, rfl⟩ := List.mem_map.mp hb
    have ht := List.mem_range.mp ht
    have h1 := List.pairwise_iff_getElem.mp h t (t + 1) (by omega) (by omega) (by omega)
    have e1 : r.getD t 0 = r[t] := by simp [List.getD, show t < r.length by omega]
    have e2 : r.getD (t + 1) 0 = r[t + 1] := by simp [List.getD, show t + 1 < r.length by omega]
    simp only [id, decide_eq_true_eq]
    rw [e1, e2]
    omega
/-- where no part is greater than the one ahead, all but the last are from 1 on -/
theorem moved_pos {ns : List Int} {i j : Nat} (hp : IsP ns) (hij : i < j) (hj : j ≤ ns.length) (hd : (moved ns i j).Pairwise (fun a b => b ≤ a)) (k : Nat) (hk : k < ns.length) : 1 ≤ (moved ns i j).getD k 0 := by
  have hl := moved_len ns i j
  have h1 := hp.1 ns[k] (List.getElem_mem hk)
  have e := moved_get hij hj k
  rw [front_get hk] at e
  by_cases c : k = i
  · -- the part that became less: not 0, for a later one is greater than 0
    have ej := moved_get hij hj j
    rw [if_neg (by omega), if_pos rfl] at ej
    have nn : 0 ≤ (ns ++ [0]).getD j 0 := by
      by_cases hjl : j < ns.length
      · rw [front_get hjl]
        have := hp.1 ns[j] (List.getElem_mem hjl)
        omega
      · rw [show j = ns.length by omega, back_get]
        exact Int.le_refl _
    have hle := List.pairwise_iff_getElem.mp hd i j (by omega) (by omega) hij
    have e1 : (moved ns i j).getD i 0 = (moved ns i j)[i] := by simp [List.getD, show i < (moved ns i j).length by omega]
    have e2 : (moved ns i j).getD j 0 = (moved ns i j)[j] := by simp [List.getD, show j < (moved ns i j).length by omega]
    rw [c]
    omega
  · rw [if_neg c] at e
    split at e <;> omega
theorem cutz_filter {ns : List Int} {i j : Nat} (hp : IsP ns) (hij : i < j) (hj : j ≤ ns.length) (hd : (moved ns i j).Pairwise (fun a b => b ≤ a)) : (moved ns i j).filter (fun z => decide (0 < z)) = cutz (moved ns i j) ∧ IsP (cutz (moved ns i j)) := by
  have hl := moved_len ns i j
  have hne : moved ns i j ≠ [] := fun z => by rw [z] at hl; cases hl
  have e := List.dropLast_concat_getLast hne
  have e2 : (moved ns i j).getLastD 1 = (moved ns i j).getLast hne := by rw [List.getLastD_eq_getLast?, List.getLast?_eq_getLast hne]; rfl
  have ld : (moved ns i j).dropLast.length = ns.length := by rw [List.length_dropLast, hl, Nat.add_sub_cancel]
  have front : ∀ x ∈ (moved ns i j).dropLast, 1 ≤ x := fun x hx => by
    obtain ⟨k, hk, rfl⟩ := mem_getD hx
    have h1 := moved_pos hp hij hj hd k (by omega)
    have e3 : (moved ns i j).dropLast.getD k 0 = (moved ns i j).getD k 0 := by
      simp only [List.getD_eq_getElem?_getD]
      rw [List.getElem?_dropLast, if_pos (by omega)]
    rw [e3]
    exact h1
  have f1 : (moved ns i j).dropLast.filter (fun z => decide (0 < z)) = (moved ns i j).dropLast := List.filter_eq_self.mpr fun x hx => by
    have := front x hx
    simp
    omega
  have hs := moved_sum (ns := ns) hij hj
  have h3 := hp.2.2
  have lastnn : 0 ≤ (moved ns i j).getLast hne := by
    have eg : (moved ns i j).getLast hne = (moved ns i j).getD ns.length 0 := by
      rw [List.getLast_eq_getElem]
      simp [List.getD, hl]
    rw [eg, moved_get hij hj, if_neg (by omega), back_get]
    split <;> omega
  have es : (moved ns i j).dropLast.sum + (moved ns i j).getLast hne = ns.sum := by
    rw [← hs]
    have e' := congrArg List.sum e
    rw [sum_append] at e'
    simp only [List.sum_cons, List.sum_nil] at e'
    omega
  have hdrop : (moved ns i j).dropLast.Pairwise (fun a b => b ≤ a) := hd.sublist (List.dropLast_sublist _)
  unfold cutz
  rw [e2]
  by_cases c : (moved ns i j).getLast hne = 0
  · rw [if_pos c]
    refine ⟨?_, front, hdrop, by omega⟩
    have k := congrArg (List.filter fun z => decide (0 < z)) e
    rw [List.filter_append, f1, c] at k
    rw [← k]
    simp
  · rw [if_neg c]
    refine ⟨?_, fun x hx => ?_, hd, by rw [hs]; exact h3⟩
    · have k := congrArg (List.filter fun z => decide (0 < z)) e
      rw [List.filter_append, f1] at k
      rw [← k]
      have : List.filter (fun z => decide (0 < z)) [(moved ns i j).getLast hne] = [(moved ns i j).getLast hne] := List.filter_eq_self.mpr fun x hx => by
        rw [List.mem_singleton.mp hx]
        simp
        omega
      rw [this]
      exact e
    · rw [← e] at hx
      rcases List.mem_append.mp hx with hx | hx
      · exact front x hx
      · rw [List.mem_singleton.mp hx]
        omega
/-- the program's box let down is the law's -/
theorem due_ld {ns : List Int} {i j : Nat} (hp : IsP ns) : ldV ns (.int (i : Int)) (.int (j : Int)) = dueL ns i j := by
  unfold dueL
  by_cases c : i < j ∧ j ≤ ns.length
  · rw [if_pos c, ldV_at c]
    cases h : ascB (moved ns i j) with
    | true =>
      rw [if_pos rfl]
      refine if_neg fun z => ?_
      have hz := isPart_iff.mp z
      have : ¬ (moved ns i j).Pairwise (fun a b => b ≤ a) := fun w => by
        rw [ascB_false.mpr w] at h
        cases h
      apply this
      -- cutz descending, and the last one is 0 where it was cut
      unfold cutz at hz
      by_cases cz : (moved ns i j).getLastD 1 = 0
      · rw [if_pos cz] at hz
        have hl := moved_len ns i j
        have hne : moved ns i j ≠ [] := fun z => by rw [z] at hl; cases hl
        have e := List.dropLast_concat_getLast hne
        have e2 : (moved ns i j).getLastD 1 = (moved ns i j).getLast hne := by rw [List.getLastD_eq_getLast?, List.getLast?_eq_getLast hne]; rfl
        rw [← e, ← e2, cz]
        refine List.pairwise_append.mpr ⟨hz.2.1, List.pairwise_singleton _ _, fun x hx y hy => ?_⟩
        rw [List.mem_singleton.mp hy]
        have := hz.1 x hx
        omega
      · rw [if_neg cz] at hz
        exact hz.2.1
    | false =>
      obtain ⟨h1, h2⟩ := cutz_filter hp c.1 c.2 (ascB_false.mp h)
      rw [if_pos (isPart_iff.mpr h2), if_neg Bool.false_ne_true, h1]
  · rw [if_neg c]
    refine ldV_no ?_
    cases h : arePl ns.length (.int (i : Int)) (.int (j : Int)) with
    | false => rfl
    | true =>
      obtain ⟨i', j', h1, h2, h3, h4⟩ := arePl_iff.mp h
      have e1 := V.int.inj h1
      have e2 := V.int.inj h2
      exact absurd ⟨by omega, by omega⟩ c
/-! ### the order: a box let down lowers -/
theorem lead_far {xs ys : List Int} (he : xs.sum = ys.sum) {m : Nat} (h : max xs.length ys.length ≤ m) : lead xs ys m = 0 := by
  unfold lead
  rw [List.take_of_length_le (by omega), List.take_of_length_le (by omega)]
  omega
/-- no first parts of ys are more than those of xs -/
def Abv (xs ys : List Int) : Prop := ∀ m, 0 ≤ lead xs ys m
theorem lack_abv {xs ys : List Int} (he : xs.sum = ys.sum) : lackV xs ys = .non ↔ Abv xs ys := by
  unfold lackV
  rw [firstF_non]
  refine ⟨fun h m => ?_, fun h m _ _ => h m⟩
  by_cases c : m ≤ max xs.length ys.length
  · by_cases z : m = 0
    · rw [z]
      exact Int.le_refl _
    · exact h m (by omega) (by omega)
  · rw [lead_far he (by omega)]
    exact Int.le_refl _
/-! a box let down -/
theorem sum_take_set : ∀ {l : List Int} {i : Nat} (z : Int) (m : Nat), i < l.length → ((l.set i z).take m).sum = (l.take m).sum + if i < m then z - l.getD i 0 else 0
  | [], _, _, _, h => by simp at h
  | a :: r, i, z, 0, h => by simp
  | a :: r, 0, z, m + 1, h => by
    show (z :: r.take m).sum = (a :: r.take m).sum + if 0 < m + 1 then z - a else 0
    rw [if_pos (by omega), List.sum_cons, List.sum_cons]
    omega
  | a :: r, i + 1, z, m + 1, h => by
    have ih := sum_take_set (l := r) (i := i) z m (by simpa using h)
    show (a :: (r.set i z).take m).sum = (a :: r.take m).sum + if i + 1 < m + 1 then z - r.getD i 0 else 0
    rw [List.sum_cons, List.sum_cons, ih]
    by_cases c : i < m
    · rw [if_pos c, if_pos (by omega)]
      omega
    · rw [if_neg c, if_neg (by omega)]
      omega
theorem take_back : ∀ (l : List Int) (m : Nat), ((l ++ [0]).take m).sum = (l.take m).sum
  | l, 0 => by simp
  | [], m + 1 => by simp
  | x :: r, m + 1 => by
    show (x :: (r ++ [0]).take m).sum = (x :: r.take m).sum
    rw [List.sum_cons, List.sum_cons, take_back r m]
theorem moved_take {ns : List Int} {i j : Nat} (hij : i < j) (hj : j ≤ ns.length) (m : Nat) : ((moved ns i j).take m).sum = (ns.take m).sum - (if i < m then 1 else 0) + if j < m then 1 else 0 := by
  have l1 : (ns ++ [0]).length = ns.length + 1 := by simp
  unfold moved
  simp only
  rw [sum_take_set _ _ (by rw [List.length_set]; omega), sum_take_set _ _ (by omega), take_back]
  by_cases c : i < m
  · rw [if_pos c, if_pos c]
    split <;> omega
  · rw [if_neg c, if_neg c]
    split <;> omega
theorem cutz_take {r : List Int} (m : Nat) : ((cutz r).take m).sum = (r.take m).sum := by
  unfold cutz
  by_cases c : r.getLastD 1 = 0
  · rw [if_pos c]
    have hne : r ≠ [] := fun z => by
      rw [z] at c
      cases c
    have e := List.dropLast_concat_getLast hne
    have e2 : r.getLast hne = 0 := by
      rw [List.getLastD_eq_getLast?, List.getLast?_eq_getLast hne] at c
      exact c
    rw [e2] at e
    have := take_back r.dropLast m
    rw [e] at this
    exact this.symm
  · rw [if_neg c]
theorem low_lead {ns : List Int} {i j : Nat} (hij : i < j) (hj : j ≤ ns.length) (m : Nat) : lead ns (cutz (moved ns i j)) m = (if i < m then 1 else 0) - if j < m then 1 else 0 := by
  unfold lead
  rw [cutz_take, moved_take hij hj]
  omega
theorem lead_flip (xs ys : List Int) (m : Nat) : lead ys xs m = - lead xs ys m := by
  unfold lead
  omega
theorem low_abv {ns : List Int} {i j : Nat} (hij : i < j) (hj : j ≤ ns.length) : Abv ns (cutz (moved ns i j)) ∧ ¬ Abv (cutz (moved ns i j)) ns := by
  refine ⟨fun m => ?_, fun h => ?_⟩
  · rw [low_lead hij hj]
    split <;> split <;> omega
  · have := h (i + 1)
    rw [lead_flip, low_lead hij hj, if_pos (by omega), if_neg (by omega)] at this
    omega
theorem low_sum {ns : List Int} {i j : Nat} (hij : i < j) (hj : j ≤ ns.length) : (cutz (moved ns i j)).sum = ns.sum := by
  have h := cutz_take (r := moved ns i j) ((moved ns i j).length + (cutz (moved ns i j)).length)
  rw [List.take_of_length_le (by omega), List.take_of_length_le (by omega), moved_sum hij hj] at h
  exact h
/-! ### the next parting on a way down -/
def gap (xs ys : List Int) (i : Nat) : Int := xs.getD i 0 - ys.getD i 0
theorem lead_gap (xs ys : List Int) (i : Nat) : lead xs ys (i + 1) = lead xs ys i + gap xs ys i := lead_next xs ys i
theorem getD_far {l : List Int} {i : Nat} (h : l.length ≤ i) : l.getD i 0 = 0 := by simp [List.getD, List.getElem?_eq_none h]
theorem getD_pos {l : List Int} (h : IsP l) {i : Nat} (hi : i < l.length) : 1 ≤ l.getD i 0 := h.1 _ (getD_mem hi)
theorem getD_nn {l : List Int} (h : IsP l) (i : Nat) : 0 ≤ l.getD i 0 := by
  by_cases c : i < l.length
  · have := getD_pos h c
    omega
  · rw [getD_far (by omega)]
    exact Int.le_refl _
theorem getD_desc {l : List Int} (h : IsP l) {i j : Nat} (hij : i ≤ j) : l.getD j 0 ≤ l.getD i 0 := by
  by_cases c : j < l.length
  · by_cases e : i = j
    · rw [e]
      exact Int.le_refl _
    · have h1 := List.pairwise_iff_getElem.mp h.2.1 i j (by omega) c (by omega)
      have e1 : l.getD i 0 = l[i] := by simp [List.getD, show i < l.length by omega]
      have e2 : l.getD j 0 = l[j] := by simp [List.getD, c]
      rw [e1, e2]
      exact h1
  · rw [getD_far (by omega)]
    exact getD_nn h i
/-- alike in every part, alike -/
theorem same_of {xs ys : List Int} (ix : IsP xs) (iy : IsP ys) (h : ∀ i, gap xs ys i = 0) : xs = ys := by
  have hl : xs.length = ys.length := by
    by_cases a : xs.length < ys.length
    · have h1 := h xs.length
      have h2 := getD_pos iy a
      unfold gap at h1
      rw [getD_far (Nat.le_refl _)] at h1
      omega
    · by_cases b : ys.length < xs.length
      · have h1 := h ys.length
        have h2 := getD_pos ix b
        unfold gap at h1
        rw [getD_far (l := ys) (Nat.le_refl _)] at h1
        omega
      · omega
  refine List.ext_getElem hl fun i h1 h2 => ?_
  have := h i
  unfold gap at this
  simp [List.getD, h1, h2] at this
  omega
/-- the place f gives a box, the place s takes it -/
structure Near (xs ys : List Int) (f s : Nat) : Prop where
  lt : f < s
  neg : gap xs ys s < 0
  ahead : ∀ i, i < s → 0 ≤ gap xs ys i
  pos : 0 < gap xs ys f
  even : ∀ i, f < i → i < s → gap xs ys i = 0
theorem least_of {p : Nat → Prop} [DecidablePred p] : ∀ n, p n → ∃ m, m ≤ n ∧ p m ∧ ∀ i, i < m → ¬ p i
  | 0, h => ⟨0, Nat.le_refl _, h, fun i hi => by omega⟩
  | n + 1, h => by
    by_cases c : ∃ k, k ≤ n ∧ p k
    · obtain ⟨k, hk, pk⟩ := c
      obtain ⟨m, h1, h2, h3⟩ := least_of k pk
      exact ⟨m, by omega, h2, h3⟩
    · exact ⟨n + 1, Nat.le_refl _, h, fun i hi pi => c ⟨i, by omega, pi⟩⟩
theorem greatest_of {p : Nat → Prop} [DecidablePred p] : ∀ n, (∃ k, k < n ∧ p k) → ∃ m, m < n ∧ p m ∧ ∀ i, m < i → i < n → ¬ p i
  | 0, ⟨k, hk, _⟩ => by omega
  | n + 1, ⟨k, hk, pk⟩ => by
    by_cases c : p n
    · exact ⟨n, by omega, c, fun i h1 h2 => by omega⟩
    · have hk' : k < n := by
        by_cases e : k = n
        · rw [e] at pk
          exact absurd pk c
        · omega
      obtain ⟨m, h1, h2, h3⟩ := greatest_of n ⟨k, hk', pk⟩
      refine ⟨m, by omega, h2, fun i hi1 hi2 pi => ?_⟩
      by_cases e : i = n
      · rw [e] at pi
        exact c pi
      · exact h3 i hi1 (by omega) pi
theorem lead_const {xs ys : List Int} {a : Nat} : ∀ d, (∀ i, a ≤ i → i < a + d → gap xs ys i = 0) → lead xs ys (a + d) = lead xs ys a
  | 0, _ => rfl
  | d + 1, h => by
    have ih := lead_const d fun i h1 h2 => h i h1 (by omega)
    rw [show a + (d + 1) = a + d + 1 by omega, lead_gap, ih, h (a + d) (by omega) (by omega)]
    omega
theorem lead_mono {xs ys : List Int} {a : Nat} : ∀ d, (∀ i, a ≤ i → i < a + d → 0 ≤ gap xs ys i) → lead xs ys a ≤ lead xs ys (a + d)
  | 0, _ => Int.le_refl _
  | d + 1, h => by
    have ih := lead_mono d fun i h1 h2 => h i h1 (by omega)
    have := h (a + d) (by omega) (by omega)
    rw [show a + (d + 1) = a + d + 1 by omega, lead_gap]
    omega
theorem near_is {xs ys : List Int} (ix : IsP xs) (iy : IsP ys) (he : xs.sum = ys.sum) (hne : xs ≠ ys) (ha : Abv xs ys) : ∃ f s, Near xs ys f s := by
  have hneg : ∃ i, gap xs ys i < 0 := by
    refine Classical.byContradiction fun hno => hne (same_of ix iy fun i => ?_)
    have nn : ∀ i, 0 ≤ gap xs ys i := fun i => by
      have : ¬ gap xs ys i < 0 := fun c => hno ⟨i, c⟩
      omega
    have e1 := lead_mono (xs := xs) (ys := ys) (a := 0) i fun j _ _ => nn j
    rw [Nat.zero_add, lead_zero] at e1
    have e2 := lead_gap xs ys i
    have e3 := lead_mono (xs := xs) (ys := ys) (a := i + 1) (max xs.length ys.length) fun j _ _ => nn j
    rw [lead_far he (m := i + 1 + max xs.length ys.length) (by omega)] at e3
    have := nn i
    omega
  obtain ⟨i, hi⟩ := hneg
  obtain ⟨s, _, hs, hl⟩ := least_of (p := fun i => gap xs ys i < 0) i hi
  have ahead : ∀ i, i < s → 0 ≤ gap xs ys i := fun i hi => by
    have := hl i hi
    omega
  have hpos : ∃ k, k < s ∧ 0 < gap xs ys k := by
    refine Classical.byContradiction fun hno => ?_
    have z : ∀ i, 0 ≤ i → i < 0 + s → gap xs ys i = 0 := fun i _ hi => by
      have h1 := ahead i (by omega)
      have : ¬ 0 < gap xs ys i := fun c => hno ⟨i, by omega, c⟩
      omega
    have e1 := lead_const s z
    rw [Nat.zero_add, lead_zero] at e1
    have e2 := lead_gap xs ys s
    have := ha (s + 1)
    omega
  obtain ⟨f, h1, h2, h3⟩ := greatest_of (p := fun k => 0 < gap xs ys k) s hpos
  exact ⟨f, s, h1, hs, ahead, h2, fun i a b => by
    have := h3 i a b
    have := ahead i b
    omega⟩
theorem Near.place {xs ys : List Int} {f s : Nat} (iy : IsP ys) (n : Near xs ys f s) : s ≤ xs.length := by
  refine Classical.byContradiction fun c => ?_
  have h1 := n.neg
  have h2 := n.ahead xs.length (by omega)
  have h3 := getD_desc iy (i := xs.length) (j := s) (by omega)
  unfold gap at h1 h2
  rw [getD_far (l := xs) (by omega)] at h1 h2
  omega
theorem Near.parting {xs ys : List Int} {f s : Nat} (ix : IsP xs) (iy : IsP ys) (n : Near xs ys f s) : IsP (cutz (moved xs f s)) := by
  have hs := n.place iy
  have hd : (moved xs f s).Pairwise (fun a b => b ≤ a) := desc_adj fun t ht => by
    have ml := moved_len xs f s
    have z : ∀ k, (xs ++ [0]).getD k 0 = xs.getD k 0 := fun k => by
      by_cases c : k < xs.length
      · rw [front_get c]
        simp [List.getD, c]
      · rw [getD_far (l := xs) (by omega)]
        by_cases e : k = xs.length
        · rw [e, back_get]
        · exact getD_far (by simp; omega)
    rw [moved_get n.lt hs, moved_get n.lt hs, z, z]
    have d1 := getD_desc ix (i := t) (j := t + 1) (by omega)
    have d2 := getD_desc iy (i := t) (j := t + 1) (by omega)
    have p1 := n.pos
    have p2 := n.neg
    have lt := n.lt
    unfold gap at p1 p2
    by_cases c1 : t = f
    · subst c1
      rw [if_pos rfl, if_neg (by omega)]
      by_cases c2 : t + 1 = s
      · rw [if_pos c2]
        rw [← c2] at p2
        omega
      · rw [if_neg c2]
        have := n.even (t + 1) (by omega) (by omega)
        unfold gap at this
        omega
    · rw [if_neg c1]
      by_cases c2 : t + 1 = f
      · rw [if_pos c2, if_neg (by omega)]
        omega
      · rw [if_neg c2]
        by_cases c3 : t + 1 = s
        · rw [if_pos c3, if_neg (by omega)]
          have := n.even t (by omega) (by omega)
          unfold gap at this
          rw [← c3] at p2
          omega
        · rw [if_neg c3]
          split <;> omega
  exact (cutz_filter ix n.lt hs hd).2
theorem Near.above {xs ys : List Int} {f s : Nat} (iy : IsP ys) (ha : Abv xs ys) (n : Near xs ys f s) : Abv (cutz (moved xs f s)) ys := fun m => by
  have hs := n.place iy
  have e : lead (cutz (moved xs f s)) ys m = lead xs ys m - lead xs (cutz (moved xs f s)) m := by
    unfold lead
    omega
  rw [e, low_lead n.lt hs]
  have h0 := ha m
  by_cases c : f < m ∧ m ≤ s
  · have h1 := ha f
    have h2 := lead_gap xs ys f
    have h3 := n.pos
    have h4 := lead_const (xs := xs) (ys := ys) (a := f + 1) (m - (f + 1)) fun i h1 h2 => n.even i (by omega) (by omega)
    rw [show f + 1 + (m - (f + 1)) = m by omega] at h4
    rw [if_pos c.1, if_neg (by omega)]
    omega
  · split <;> split <;> omega
/-- how far apart -/
def dist (N : Nat) (xs ys : List Int) : Int := ((List.range N).map fun m => lead xs ys (m + 1)).sum
theorem sum_le_map (N : Nat) {g h : Nat → Int} (hle : ∀ m, g m ≤ h m) : ((List.range N).map g).sum ≤ ((List.range N).map h).sum := by
  induction N with
  | zero => exact Int.le_refl _
  | succ n ih =>
    rw [List.range_succ, List.map_append, List.map_append, sum_append, sum_append]
    have := hle n
    simp only [List.map_cons, List.map_nil, List.sum_cons, List.sum_nil]
    omega
theorem sum_lt_map (N : Nat) {g h : Nat → Int} (hle : ∀ m, g m ≤ h m) {k : Nat} (hk : k < N) (hlt : g k < h k) : ((List.range N).map g).sum < ((List.range N).map h).sum := by
  induction N with
  | zero => omega
  | succ n ih =>
    rw [List.range_succ, List.map_append, List.map_append, sum_append, sum_append]
    have h1 := hle n
    simp only [List.map_cons, List.map_nil, List.sum_cons, List.sum_nil]
    by_cases c : k = n
    · have := sum_le_map n hle
      rw [c] at hlt
      omega
    · have := ih (by omega)
      omega
theorem Near.nearer {N : Nat} {xs ys : List Int} {f s : Nat} (iy : IsP ys) (n : Near xs ys f s) (hN : xs.length ≤ N) : dist N (cutz (moved xs f s)) ys < dist N xs ys := by
  have hs := n.place iy
  have e : ∀ m, lead (cutz (moved xs f s)) ys m = lead xs ys m - ((if f < m then 1 else 0) - if s < m then 1 else 0) := fun m => by
    rw [← low_lead n.lt hs]
    unfold lead
    omega
  have lt := n.lt
  refine sum_lt_map N (fun m => ?_) (k := f) (by omega) ?_
  · rw [e]
    split <;> split <;> omega
  · rw [e, if_pos (by omega), if_neg (by omega)]
    omega
theorem dist_nn {N : Nat} {xs ys : List Int} (ha : Abv xs ys) : 0 ≤ dist N xs ys := sum_nn fun x hx => by
  obtain ⟨m, _, rfl⟩ := List.mem_map.mp hx
  exact ha (m + 1)
theorem lead_le {xs ys : List Int} (ix : IsP xs) (iy : IsP ys) (m : Nat) : lead xs ys m ≤ xs.sum := by
  unfold lead
  have h1 : 0 ≤ (ys.take m).sum := sum_nn fun x hx => by
    have := iy.1 x (List.mem_of_mem_take hx)
    omega
  have h2 : 0 ≤ (xs.drop m).sum := sum_nn fun x hx => by
    have := ix.1 x (List.mem_of_mem_drop hx)
    omega
  have h3 : (xs.take m).sum + (xs.drop m).sum = xs.sum := by rw [← sum_append, List.take_append_drop]
  omega
theorem dist_le {xs ys : List Int} (ix : IsP xs) (iy : IsP ys) (N : Nat) : dist N xs ys ≤ (N : Int) * xs.sum := by
  unfold dist
  induction N with
  | zero => simp
  | succ n ih =>
    rw [List.range_succ, List.map_append, sum_append]
    have := lead_le ix iy (n + 1)
    simp only [List.map_cons, List.map_nil, List.sum_cons, List.sum_nil]
    have e : ((n + 1 : Nat) : Int) * xs.sum = (n : Int) * xs.sum + xs.sum := by
      rw [Int.natCast_add, Int.add_mul]
      simp
    omega
/-! ### stairparts.order: _nearer, way_down -/
section
variable {P : Program} {w : World} {K : PySem.W.Frag} {mg : Str → Option Value} {base : Heap}
theorem gap_at {xs ys : List Int} {i : Nat} {z : V} (h : ((gapsL xs ys).map V.int)[i]? = some z) : i < max xs.length ys.length ∧ z = .int (gap xs ys i) := gaps_get h
theorem spl_letdown {C a : Addr} {ns r : List Int} {i j : Nat} {H : Hp} (hL : Ll H a ns) (hp : IsP ns) (hr : ldV ns (.int (i : Int)) (.int (j : Int)) = some r) : SpL (sp_let_down K C) [.ref a, .int (i : Int), .int (j : Int)] H (r.map V.int) := fun H1 e _ q _ =>
  ⟨a, ns, _, _, rfl, e _ _ hL, hp, numV_int, numV_int, (fun hn => by rw [hr] at hn; cases hn), fun r' hr' => by
    rw [hr] at hr'
    cases hr'
    exact q⟩
theorem ld_near {xs ys : List Int} {f s : Nat} (ix : IsP xs) (iy : IsP ys) (n : Near xs ys f s) : ldV xs (.int (f : Int)) (.int (s : Int)) = some (cutz (moved xs f s)) := by
  rw [ldV_at ⟨n.lt, n.place iy⟩, if_pos (n.parting ix iy).is]
theorem near_lt {xs ys : List Int} {f s : Nat} (n : Near xs ys f s) : s < max xs.length ys.length := by
  have h := n.neg
  refine Classical.byContradiction fun c => ?_
  unfold gap at h
  rw [getD_far (l := xs) (by omega), getD_far (l := ys) (by omega)] at h
  omega
def sp_nearer : Sp := fun vs H Q _ => ∃ (a b : Addr) (xs ys : List Int), vs = [.ref a, .ref b] ∧ Ll H a xs ∧ Ll H b ys ∧ IsP xs ∧ IsP ys ∧ xs.sum = ys.sum ∧ xs ≠ ys ∧ Abv xs ys ∧ RetLP (fun r => ∃ f s, Near xs ys f s ∧ r = cutz (moved xs f s)) H Q
theorem ok_nearer (T : Tx K mg) : FnOk P w K mg base CX0 5 T.a_nearer T.d_nearer ["parting", "goal"] sp_nearer := by
  refine T.F_nearer.ok sc_nearer (fun vs H Q E h => ?_) (fun cdv A outer s H vs Q E hr h => ?_)
  · obtain ⟨a, b, xs, ys, rfl, _⟩ := h
    rfl
  · obtain ⟨a, b, xs, ys, rfl, hx, hy, ix, iy, he, hne, ha, q⟩ := h
    refine ⟨_, (pss_cons (ps_set (i := 2) sc_nearer.nd rfl (Or.inl rfl) (pe_call (ok_gaps T) (hr.mono (by decide)) (by rfl) T.g_gaps T.F_gaps.kp T.b_gaps .nil pass0 (pa_cons (pv 0) (pa_cons (pv 1) pa_nil))))
    (pss_cons (ps_set (i := 3) sc_nearer.nd rfl (Or.inl rfl) (pe_callB (minK (K := K) rfl rfl) (by rfl) T.n_min (by decide +kernel) (pa_cons (pe_lc (own := [("place", 5), ("gap", 6)]) (g := g2n K 5 6) (by rfl) sc_nearer.nd (pi_enum (by rfl) T.n_enumerate (pa_cons (pv 2) pa_nil)) (blkOk_by (own := [("place", 5), ("gap", 6)]) (N := ["parting", "goal", "gaps", "second", "first", "place", "gap"]) (sc := defScope s_nearer) (by decide +kernel)) (fun _ _ _ _ _ => (pg_tup rfl (pgs_cons (pg_name (i := 5) sc_nearer.nd rfl (Or.inl rfl)) (pgs_cons (pg_name (i := 6) sc_nearer.nd rfl (Or.inl rfl)) pgs_nil)))) (fun _ _ _ _ _ => pts_one (pt_cmpR op_lt (pv 6) pe_int (nomark _))) (fun _ _ _ _ _ => (pv 5))) pa_nil)))
    (pss_cons (ps_set (i := 4) sc_nearer.nd rfl (Or.inl rfl) (pe_callB (maxK (K := K) rfl rfl) (by rfl) T.n_max (by decide +kernel) (pa_cons (pe_lc (own := [("place", 5), ("gap", 6)]) (g := g2n K 5 6) (by rfl) sc_nearer.nd (pi_enum (by rfl) T.n_enumerate (pa_cons (pe_slice (sllK (K := K) rfl) (pv 2) po_none (po_some (pv 3))) pa_nil)) (blkOk_by (own := [("place", 5), ("gap", 6)]) (N := ["parting", "goal", "gaps", "second", "first", "place", "gap"]) (sc := defScope s_nearer) (by decide +kernel)) (fun _ _ _ _ _ => (pg_tup rfl (pgs_cons (pg_name (i := 5) sc_nearer.nd rfl (Or.inl rfl)) (pgs_cons (pg_name (i := 6) sc_nearer.nd rfl (Or.inl rfl)) pgs_nil)))) (fun _ _ _ _ _ => pts_one (pt_cmpR op_gt (pv 6) pe_int (nomark _))) (fun _ _ _ _ _ => (pv 5))) pa_nil)))
    (pss_one (ps_ret (pe_call (ok_let_down T) (hr.mono (by decide)) (by rfl) T.g_let_down T.F_let_down.kp T.b_let_down .nil (E := E0) passL (pa_cons (pv 0) (pa_cons (pv 4) (pa_cons (pv 3) pa_nil))))))))), ?_⟩
    have lx := ix.len
    have ly := iy.len
    obtain ⟨f, s, n⟩ := near_is ix iy he hne ha
    have ns := near_lt n
    have lg := gaps_len xs ys
    have nlt := n.lt
    refine q_asgL (el_call (ea_cons (ev_var rfl) (ea_cons (ev_var rfl) ea_nil)) (spl_gaps hx hy (by omega) (by omega))) fun g H1 ng e1 hg => ?_
    have hg' : Ll H1 g (gapsL xs ys) := hg
    refine q_asg (v := .int (s : Int)) (ev_cbL (el_is (el_lcE (xs := (gapsL xs ys).map V.int) (fun i => decide (gap xs ys i < 0)) (fun i => .int (i : Nat)) (ea_cons (ev_var rfl) ea_nil) hg'.sq (by rw [List.length_map]; omega) (fun _ _ => rfl)
      (fun i z H2 hz e2 => by
        obtain ⟨_, rfl⟩ := gap_at hz
        exact et_test (ev_rI0 (ev_var rfl) ev_c)) fun i z H2 hz e2 _ => ev_var rfl) (given_ints _ _)) fun p H2 _ hp => rc_minOf (sq_of hp) ?_ fun k hk hle => ?_) fun H2 e2 => ?_
    · rw [List.length_map]
      exact List.length_pos_iff.mpr (List.ne_nil_of_mem (List.mem_filter.mpr ⟨List.mem_range.mpr (by rw [List.length_map, lg]; exact ns), by simpa using n.neg⟩))
    · obtain ⟨i, hi, rfl⟩ := List.mem_map.mp hk
      have hi2 := (List.mem_filter.mp hi).2
      have h1 := hle (s : Int) (List.mem_map.mpr ⟨s, List.mem_filter.mpr ⟨List.mem_range.mpr (by rw [List.length_map, lg]; exact ns), by simpa using n.neg⟩, rfl⟩)
      have h2 : ¬ i < s := fun c => by
        have := n.ahead i c
        simp at hi2
        omega
      omega
    · have hg2 : Ll H2 g (gapsL xs ys) := e2 _ _ hg'
      have e12 := e1.trans e2
      have cutg : cutV ((gapsL xs ys).map V.int) none (some (s : Int)) = ((gapsL xs ys).map V.int).take s := cut_upto _ _
      have lt : (((gapsL xs ys).map V.int).take s).length = s := by
        rw [List.length_take, List.length_map, lg]
        omega
      have gt : ∀ {i z}, (((gapsL xs ys).map V.int).take s)[i]? = some z → i < s ∧ z = .int (gap xs ys i) := fun {i z} hz => by
        have hi : i < s := by
          have := lt_of_get hz
          omega
        rw [List.getElem?_take_of_lt hi] at hz
        exact ⟨hi, (gap_at hz).2⟩
      refine q_asg (v := .int (f : Int)) (ev_cbL (el_is (el_lcEN (xs := ((gapsL xs ys).map V.int).take s) (fun i => decide (0 < gap xs ys i)) (fun i => .int (i : Nat)) (el_is (el_sl (ev_var rfl) eo_none (eo_some (ev_var rfl)) hg2.sq) cutg) (by rw [lt]; omega) (fun _ _ => rfl)
        (fun i z H3 hz e3 => by
          obtain ⟨_, rfl⟩ := gt hz
          exact et_test (ev_rI0 (ev_var rfl) ev_c)) fun i z H3 hz e3 _ => ev_var rfl) (given_ints _ _)) fun p H3 _ hp => rc_maxOf (sq_of hp) ?_ fun k hk hle => ?_) fun H3 e3 => ?_
      · rw [List.length_map]
        exact List.length_pos_iff.mpr (List.ne_nil_of_mem (List.mem_filter.mpr ⟨List.mem_range.mpr (by rw [lt]; exact nlt), by simpa using n.pos⟩))
      · obtain ⟨i, hi, rfl⟩ := List.mem_map.mp hk
        obtain ⟨hi1, hi2⟩ := List.mem_filter.mp hi
        have hi1 := List.mem_range.mp hi1
        rw [lt] at hi1
        have h1 := hle (f : Int) (List.mem_map.mpr ⟨f, List.mem_filter.mpr ⟨List.mem_range.mpr (by rw [lt]; exact nlt), by simpa using n.pos⟩, rfl⟩)
        have h2 : ¬ f < i := fun c => by
          have := n.even i c hi1
          simp at hi2
          omega
        omega
      · have e13 := e12.trans e3
        exact s_retL (el_call (ea_cons (ev_var rfl) (ea_cons (ev_var rfl) (ea_cons (ev_var rfl) ea_nil))) (spl_letdown (e13 _ _ hx) ix (ld_near ix iy n))) fun p H4 np e4 hp => q p _ H4 (fresh_back e13 np) (e13.trans e4) hp ⟨f, s, n, rfl⟩
theorem evP_nearer {a b : Addr} {xs ys : List Int} {σ : L2.St} {H : Hp} {ta : TA} {E : XK} (h : EvA ta σ H [.ref a, .ref b]) (hx : Ll H a xs) (hy : Ll H b ys) (ix : IsP xs) (iy : IsP ys) (he : xs.sum = ys.sum) (hne : xs ≠ ys) (ha : Abv xs ys) :
    EvP (tCall sp_nearer [] E ta) σ H (fun v H1 => ∃ (p : Addr) (f s : Nat), v = .ref p ∧ H p = none ∧ Ll H1 p (cutz (moved xs f s)) ∧ Near xs ys f s) :=
  evP_call h fun H1 e Q q E => ⟨a, b, xs, ys, rfl, e _ _ hx, e _ _ hy, ix, iy, he, hne, ha, fun p r H2 np e2 hp hr => by
    obtain ⟨f, s, n, rfl⟩ := hr
    exact q _ _ e2 ⟨p, f, s, rfl, fresh_back e np, hp, n⟩⟩
/-- a way from xs on, its last parting -/
inductive Wy (xs : List Int) : List (List Int) → List Int → Prop
  | one : Wy xs [xs] xs
  | more {l : List (List Int)} {c : List Int} {f s : Nat} : Wy xs l c → f < s → s ≤ c.length → IsP (cutz (moved c f s)) → Wy xs (l ++ [cutz (moved c f s)]) (cutz (moved c f s))
/-- what is new: places that H has not -/
def NewV (H : Hp) (z : V) : Prop := ∃ q : Addr, z = .ref q ∧ H q = none
def RetWay (xs ys : List Int) (H : Hp) (Q : VK) : Prop := ∀ (p : Addr) (zs : List V) (xss : List (List Int)) (H2 : Hp), H p = none → Ex H H2 → H2 p = some (.lst zs) → Lls H2 zs xss → (∀ z ∈ zs, z ≠ .ref p ∧ NewV H z) → zs.Nodup → Wy xs xss ys → xss.length ≤ 1000 → Q (.ref p) H2
def sp_way_down : Sp := fun vs H Q _ => ∃ (a b : Addr) (xs ys : List Int), vs = [.ref a, .ref b] ∧ Ll H a xs ∧ Ll H b ys ∧ IsP xs ∧ IsP ys ∧ xs.sum = ys.sum ∧ xs.sum ≤ 30 ∧ (lackV xs ys ≠ .non → RetV .non H Q) ∧ (lackV xs ys = .non → RetWay xs ys H Q)
theorem ok_way_down (T : Tx K mg) : FnOk P w K mg base CX0 6 T.a_way_down T.d_way_down ["one", "other"] sp_way_down := by
  refine T.F_way_down.ok sc_way_down (fun vs H Q E h => ?_) (fun cdv A outer s H vs Q E hr h => ?_)
  · obtain ⟨a, b, xs, ys, rfl, _⟩ := h
    rfl
  · obtain ⟨a, b, xs, ys, rfl, hx, hy, ix, iy, he, h30, qn, qs⟩ := h
    refine ⟨_, (pss_cons (ps_if (pt_cmpR op_notN (pe_call (ok_lacking_count T) (hr.mono (by decide)) (by rfl) T.g_lacking_count T.F_lacking_count.kp T.b_lacking_count .nil (E := E0) passL (pa_cons (pv 0) (pa_cons (pv 1) pa_nil))) pe_non (nomark _))
      (pss_one (ps_ret pe_non))
      pss_nil)
    (pss_cons (ps_set (i := 2) sc_way_down.nd rfl (Or.inl rfl) (pe_lst (pa_cons (pe_callTy (listK (K := K) rfl) (by rfl) T.n_list (by decide +kernel) (pa_cons (pv 0) pa_nil)) pa_nil)))
    (pss_cons (ps_while PassesOwn.never (pt_cmpR (neK (K := K) rfl hr.units) (pe_ix (ixlK (K := K) rfl) (pv 2) (pe_un un_neg pe_int) (fun _ _ => rfl)) (pv 1) (nomark _))
      (pss_one (ps_expr (pe_bm PySem.F.plainAttrs_list PySem.F.slot_list_append PySem.F.type_list_append mt_append (pv 2) (pa_cons (pe_call (ok_nearer T) (hr.mono (by decide)) (by rfl) T.g_nearer T.F_nearer.kp T.b_nearer .nil pass0 (pa_cons (pe_ix (ixlK (K := K) rfl) (pv 2) (pe_un un_neg pe_int) (fun _ _ => rfl)) (pa_cons (pv 1) pa_nil))) pa_nil)))))
    (pss_one (ps_ret (pv 2)))))), ?_⟩
    refine q_when (et_test (ev_notN (ev_call (ea_cons (ev_var rfl) (ea_cons (ev_var rfl) ea_nil)) (spv_lacking hx hy ix iy he)))) (fun hb H1 e1 => ?_) (fun hb H1 e1 => ?_)
    · have hn : lackV xs ys ≠ .non := fun z => by rw [z] at hb; simp at hb
      exact s_ret ev_c fun H2 e2 => qn hn H2 (e1.trans e2)
    · have hn : lackV xs ys = .non := by simpa using hb
      have q := qs hn
      have ha := (lack_abv he).mp hn
      have lx := len_le_sum ix.1
      refine q_asgP (ep_lst (eap_consL (el_cb (ea_cons (ev_var rfl) ea_nil) (rcl_list (Ll.sq (e1 _ _ hx)))) eap_nil) (mono_consL mono_nil) (fun vs H' hv => by
        obtain ⟨_, _, rfl, _, _, rfl⟩ := hv
        show 1 ≤ 100000
        decide)) fun v H2 e2 hv => ?_
      obtain ⟨p, vs, rfl, np, hp, z0, us, rfl, nz, hz, rfl⟩ := hv
      have npH : H p = none := fresh_back e1 np
      have e12 := e1.trans e2
      have d900 : dist 30 xs ys ≤ 900 := by
        have := dist_le ix iy 30
        omega
      have hpz : z0 ≠ p := fun e => by
        have h1 : H2 z0 = some (.lst (xs.map V.int)) := hz
        rw [e, hp] at h1
        cases xs <;> simp at h1
      refine q_while (fun m σ' H' => ∃ (zs : List V) (z : Addr) (xss : List (List Int)) (c : List Int), σ' = [some (.ref a), some (.ref b), some (.ref p)] ∧ Ex H H' ∧ H' p = some (.lst (zs ++ [.ref z])) ∧ Lls H' (zs ++ [.ref z]) xss ∧ Ll H' z c ∧ (∀ y ∈ zs ++ [.ref z], y ≠ .ref p ∧ NewV H y) ∧ (zs ++ [V.ref z]).Nodup ∧
          Wy xs xss c ∧ IsP c ∧ c.sum = ys.sum ∧ Abv c ys ∧ (m : Int) = dist 30 c ys ∧ xss.length + m ≤ 901) (dist 30 xs ys).toNat
        ⟨[], z0, [xs], xs, rfl, e12, hp, .cons hz .nil, hz, fun y hy => ?_, by simp, .one, ix, he, ha, Int.toNat_of_nonneg (dist_nn ha), ?_⟩ fun m σ' H' hW => ?_
      · rw [List.mem_singleton.mp hy]
        exact ⟨fun e => hpz (by cases e; rfl), z0, rfl, fresh_back e1 nz⟩
      · have := dist_nn (N := 30) ha
        show 1 + _ ≤ 901
        omega
      · obtain ⟨zs, z, xss, c, rfl, eH, hp', hL, hzc, hnew, hnd, wy, ic, hs, hac, hm, hlen⟩ := hW
        have hat : atI (zs ++ [V.ref z]) (-1) = some (.ref z) := atI_last _ _
        have hy' := eH _ _ hy
        refine ⟨!decide (c = ys), et_test (ev_op (ev_op (ev_var rfl) (ev_un ev_c ru_neg) (rv_ixL (sq_of hp') hat)) (ev_var rfl) (rv_neL hzc.sq (Ll.sq hy'))), fun hb H3 e3 => ?_, fun hb H3 e3 => ?_⟩
        · have hne : c ≠ ys := by simpa using hb
          have lc := len_le_sum ic.1
          refine ⟨fun σ2 H2 => ∃ m', m' < m ∧ ∃ (zs : List V) (z : Addr) (xss : List (List Int)) (c : List Int), σ2 = [some (.ref a), some (.ref b), some (.ref p)] ∧ Ex H H2 ∧ H2 p = some (.lst (zs ++ [.ref z])) ∧ Lls H2 (zs ++ [.ref z]) xss ∧ Ll H2 z c ∧ (∀ y ∈ zs ++ [.ref z], y ≠ .ref p ∧ NewV H y) ∧ (zs ++ [V.ref z]).Nodup ∧
            Wy xs xss c ∧ IsP c ∧ c.sum = ys.sum ∧ Abv c ys ∧ (m' : Int) = dist 30 c ys ∧ xss.length + m' ≤ 901, fun σ2 H2 h => h, ?_⟩
          have hp3 := e3 _ _ hp'
          have hll := hL.len
          refine s_appP hp3 (ev_var rfl) (evP_nearer (ea_cons (ev_op (ev_var rfl) (ev_un ev_c ru_neg) (rv_ixL (sq_of hp3) hat)) (ea_cons (ev_var rfl) ea_nil)) (e3 _ _ hzc) (e3 _ _ hy') ic iy hs hne hac) (by rw [hll]; omega) fun v H4 e4 hv => ?_
          obtain ⟨r, f, s, rfl, nr, hr, n⟩ := hv
          have irr := n.parting ic iy
          have nrH : H r = none := fresh_back (eH.trans e3) nr
          have hnrp : r ≠ p := fun e => by
            rw [e, hp3] at nr
            cases nr
          have hnr : V.ref r ∉ zs ++ [.ref z] := fun hm => by
            obtain ⟨k, hk, ek⟩ := List.mem_iff_getElem.mp hm
            obtain ⟨q', x, e1, _, hx'⟩ := (hL.mono e3).at (k := k) (by rw [List.getElem?_eq_getElem hk, ek])
            cases e1
            rw [hx'] at nr
            cases nr
          have dlt := n.nearer (N := 30) iy (by omega)
          have dnn := dist_nn (N := 30) (n.above iy hac)
          refine ⟨(dist 30 (cutz (moved c f s)) ys).toNat, by omega, zs ++ [.ref z], r, xss ++ [cutz (moved c f s)], _, rfl, ((eH.trans e3).trans e4).mut npH, upd_same, ?_, (upd_ne hnrp).trans hr, fun y hy => ?_, ?_, .more wy n.lt (n.place iy) irr, irr, by rw [low_sum n.lt (n.place iy), hs], n.above iy hac, Int.toNat_of_nonneg dnn, ?_⟩
          · exact ((hL.mono (e3.trans e4)).snoc hr).upd fun y hy => by
              rcases List.mem_append.mp hy with hy | hy
              · exact (hnew y hy).1
              · rw [List.mem_singleton.mp hy]
                exact fun e => hnrp (by cases e; rfl)
          · rcases List.mem_append.mp hy with hy | hy
            · exact hnew y hy
            · rw [List.mem_singleton.mp hy]
              exact ⟨fun e => hnrp (by cases e; rfl), r, rfl, nrH⟩
          · refine List.nodup_append.mpr ⟨hnd, by simp, fun y hy y' hy' e => ?_⟩
            rw [List.mem_singleton.mp hy'] at e
            rw [e] at hy
            exact hnr hy
          · rw [List.length_append]
            show xss.length + 1 + _ ≤ 901
            omega
        · have hcy : c = ys := by simpa using hb
          subst hcy
          exact s_ret (ev_var rfl) fun H4 e4 => q p _ xss H4 npH ((eH.trans e3).trans e4) ((e3.trans e4) _ _ hp') (hL.mono (e3.trans e4)) hnew hnd wy (by omega)
end
/-! ### the helpers of the law -/
theorem cutz_get {r : List Int} (k : Nat) : (cutz r).getD k 0 = r.getD k 0 := by
  unfold cutz
  by_cases c : r.getLastD 1 = 0
  · rw [if_pos c]
    have hne : r ≠ [] := fun z => by
      rw [z] at c
      cases c
    have e2 : r.getLast hne = 0 := by
      rw [List.getLastD_eq_getLast?, List.getLast?_eq_getLast hne] at c
      exact c
    rw [List.getLast_eq_getElem] at e2
    simp only [List.getD_eq_getElem?_getD]
    rw [List.getElem?_dropLast]
    by_cases h : k < r.length - 1
    · rw [if_pos h]
    · rw [if_neg h]
      by_cases h2 : k = r.length - 1
      · subst h2
        have hl : 0 < r.length := List.length_pos_iff.mpr hne
        rw [List.getElem?_eq_getElem (by omega), e2]
        rfl
      · rw [List.getElem?_eq_none (by omega)]
  · rw [if_neg c]
theorem back_same (xs : List Int) (k : Nat) : (xs ++ [0]).getD k 0 = xs.getD k 0 := by
  by_cases c : k < xs.length
  · rw [front_get c]
    simp [List.getD, c]
  · rw [getD_far (l := xs) (by omega)]
    by_cases e : k = xs.length
    · rw [e, back_get]
    · exact getD_far (by simp; omega)
theorem step_get {xs : List Int} {f s : Nat} (h1 : f < s) (h2 : s ≤ xs.length) (k : Nat) : (cutz (moved xs f s)).getD k 0 = xs.getD k 0 - (if k = f then 1 else 0) + if k = s then 1 else 0 := by
  rw [cutz_get, moved_get h1 h2, back_same]
  by_cases c : k = f
  · rw [if_pos c, if_pos c, if_neg (by omega)]
    omega
  · rw [if_neg c, if_neg c]
    split <;> omega
theorem pad_get (xs : List Int) (m k : Nat) : (xs ++ List.replicate m 0).getD k 0 = xs.getD k 0 := by
  simp only [List.getD_eq_getElem?_getD]
  by_cases c : k < xs.length
  · rw [List.getElem?_append_left c]
  · rw [List.getElem?_append_right (by omega), List.getElem?_eq_none (l := xs) (by omega)]
    by_cases d : k - xs.length < m
    · rw [List.getElem?_replicate, if_pos d]
      rfl
    · rw [List.getElem?_eq_none (by simp; omega)]
theorem noughts_flat (n : Nat) : (List.replicate n [V.int 0]).flatten = (List.replicate n (0 : Int)).map V.int := by
  induction n with
  | zero => rfl
  | succ n ih => rw [List.replicate_succ, List.flatten_cons, ih, List.replicate_succ]; rfl
theorem filter_none (n f : Nat) (h : n ≤ f) : (List.range n).filter (fun k => decide (k = f)) = [] := by
  refine List.filter_eq_nil_iff.mpr fun k hk => ?_
  have := List.mem_range.mp hk
  simp
  omega
theorem filter_one (f : Nat) : ∀ n, f < n → (List.range n).filter (fun k => decide (k = f)) = [f]
  | 0, h => by omega
  | n + 1, h => by
    rw [List.range_succ, List.filter_append]
    by_cases c : f = n
    · rw [filter_none n f (by omega), c]
      simp
    · rw [filter_one f n (by omega)]
      simp
      omega
theorem filter_two {f s : Nat} (h : f < s) : ∀ n, s < n → (List.range n).filter (fun k => decide (k = f ∨ k = s)) = [f, s]
  | 0, hn => by omega
  | n + 1, hn => by
    rw [List.range_succ, List.filter_append]
    by_cases c : s = n
    · subst c
      have e : (List.range s).filter (fun k => decide (k = f ∨ k = s)) = (List.range s).filter fun k => decide (k = f) := List.filter_congr fun k hk => by
        have := List.mem_range.mp hk
        rw [Bool.eq_iff_iff]
        simp
        omega
      rw [e, filter_one f s h]
      simp
    · rw [filter_two h n (by omega)]
      simp
      omega
section
variable {P : Program} {w : World} {K : PySem.W.Frag} {mg : Str → Option Value} {base : Heap}
def sp_law_is_stair : Sp := fun vs H Q _ => ∃ (a : Addr) (xs : List Int), vs = [.ref a] ∧ Ll H a xs ∧ IsP xs ∧ RetV (.bl true) H Q
theorem ok_law_is_stair (T : Tx K mg) : FnOk P w K mg base CX0 1 T.a_law_is_stair T.d_law_is_stair ["_law_thing"] sp_law_is_stair := by
  refine T.F_law_is_stair.ok sc_law_is_stair (fun vs H Q E h => ?_) (fun cdv A outer s H vs Q E hr h => ?_)
  · obtain ⟨a, xs, rfl, _⟩ := h
    rfl
  · obtain ⟨a, xs, rfl, hx, ix, q⟩ := h
    refine ⟨_, (pss_cons (ps_if (PW.pt (pw_or (pt_not (pt_val (pe_callB (isiK (K := K) rfl) (by rfl) T.n_isinstance (by decide +kernel) (pa_cons (pv 0) (pa_cons (pe_bltn (v := .ty "list") (u := .type "list") (by rfl) T.n_list (by decide +kernel) rfl) pa_nil))))) (pw_or1 (pt_cmpR op_gt (pe_callB (sumK (K := K) rfl rfl) (by rfl) T.n_sum (by decide +kernel) (pa_cons (pv 0) pa_nil)) pe_int (nomark _)))))
      (pss_one (ps_ret pe_bl))
      pss_nil)
    (pss_cons (ps_if (pt_not (pt_val (pe_callB (allK (K := K) rfl rfl) (by rfl) T.n_all (by decide +kernel) (pa_cons (pe_lc (own := [("_law_one", 2)]) (g := gName 2) (by rfl) sc_law_is_stair.nd (pi_list (pv 0)) (blkOk_by (own := [("_law_one", 2)]) (N := ["_law_thing", "_law_k", "_law_one"]) (sc := defScope s_law_is_stair) (by decide +kernel)) (fun _ _ _ _ _ => (pg_name (i := 2) sc_law_is_stair.nd rfl (Or.inl rfl))) (fun _ _ _ _ _ => pts_nil) (fun _ _ _ _ _ => (pe_and (pe_callB (isiK (K := K) rfl) (by rfl) T.n_isinstance (by decide +kernel) (pa_cons (pv 2) (pa_cons (pe_bltn (v := .ty "int") (u := .type "int") (by rfl) T.n_int (by decide +kernel) rfl) pa_nil))) (pe_and (pe_not (pe_callB (isiK (K := K) rfl) (by rfl) T.n_isinstance (by decide +kernel) (pa_cons (pv 2) (pa_cons (pe_bltn (v := .ty "bool") (u := .type "bool") (by rfl) T.n_bool (by decide +kernel) rfl) pa_nil)))) (pe_one (pe_cmpR op_gt (pv 2) pe_int (nomark _))))))) pa_nil))))
      (pss_one (ps_ret pe_bl))
      pss_nil)
    (pss_one (ps_ret (pe_callB (allK (K := K) rfl rfl) (by rfl) T.n_all (by decide +kernel) (pa_cons (pe_lc (own := [("_law_k", 1)]) (g := gName 1) (by rfl) sc_law_is_stair.nd (pi_range2 (by rfl) T.n_range (pa_cons pe_int (pa_cons (pe_callB (lenK (K := K) rfl) (by rfl) T.n_len PySem.boot_len (pa_cons (pv 0) pa_nil)) pa_nil))) (blkOk_by (own := [("_law_k", 1)]) (N := ["_law_thing", "_law_k", "_law_one"]) (sc := defScope s_law_is_stair) (by decide +kernel)) (fun _ _ _ _ _ => (pg_name (i := 1) sc_law_is_stair.nd rfl (Or.inl rfl))) (fun _ _ _ _ _ => pts_nil) (fun _ _ _ _ _ => (pe_cmpR op_le (pe_ix (ixlK (K := K) rfl) (pv 0) (pv 1) (fun _ _ => rfl)) (pe_ix (ixlK (K := K) rfl) (pv 0) (pe_op op_sub (pv 1) pe_int) (fun _ _ => rfl)) (nomark _)))) pa_nil)))))), ?_⟩
    have lx := ix.len
    have sx := ix.2.2
    refine q_when (b := false) (et_is (et_or (et_not (et_B (ev_cb (ea_cons (ev_var rfl) (ea_cons ev_c ea_nil)) (rc_isiL hx)))) fun _ => et_test (ev_rI0 (ev_cb (ea_cons (ev_var rfl) ea_nil) (rc_sum hx.sq)) ev_c)) (by simp; omega)) (fun z => by cases z) (fun _ H1 e1 => ?_)
    refine q_when (b := false) (et_is (et_not (et_B (ev_cbL (el_is (el_lcIA (fun z => V.bl (decide (0 < z))) (ev_var rfl) (Ll.sq (e1 _ _ hx)) (by omega) (fun _ => rfl) fun z H2 _ hz => ev_andV (b := decide (0 < z)) (ev_cb (ea_cons (ev_var rfl) (ea_cons ev_c ea_nil)) rc_isiInt) fun _ => ev_andV (b := decide (0 < z)) (ev_notV (ev_cb (ea_cons (ev_var rfl) (ea_cons ev_c ea_nil)) rc_isiBool)) fun _ => ev_rI0 (ev_var rfl) ev_c)
      (show xs.map (fun z => V.bl (decide (0 < z))) = (xs.map fun z => decide (0 < z)).map V.bl from (List.map_map).symm)) fun p H2 _ hp => rc_all (sq_of hp)))) ?_) (fun z => by cases z) (fun _ H2 e2 => ?_)
    · have : ((xs.map fun z => decide (0 < z)).all id) = true := by
        rw [List.all_eq_true]
        intro b hb
        obtain ⟨z, hz, rfl⟩ := List.mem_map.mp hb
        have := ix.1 z hz
        simp
        omega
      rw [this]
      rfl
    · have e12 := e1.trans e2
      have hx2 := e12 _ _ hx
      have elx : ((xs.map V.int).length : Int) = (xs.length : Int) := by rw [List.length_map]
      refine s_ret (ev_is (w := V.bl true) (ev_cbL (el_is (el_lcR2A (lo := 1) (n := (xs.length : Int)) (fun t => V.bl (decide (xs.getD (t + 1) 0 ≤ xs.getD t 0))) (ea_cons ev_c (ea_cons (ev_is (ev_cb (ea_cons (ev_var rfl) ea_nil) (rc_len (Ll.sq hx2))) (by rw [elx])) ea_nil)) ⟨by decide, by decide, by omega, by omega⟩ (fun _ => rfl)
              fun t G4 e11 ht => ?_) (show _ = ((List.range ((xs.length : Int) - 1).toNat).map fun t => decide (xs.getD (t + 1) 0 ≤ xs.getD t 0)).map V.bl from (List.map_map).symm)) fun z G4 _ hz => rc_all (sq_of hz)) ?_) fun H3 e3 => q H3 (e12.trans e3)
      · have e1t : (1 : Int) + (t : Int) = ((t + 1 : Nat) : Int) := by omega
        rw [e1t]
        refine ev_rI0 (ev_ixJ (j := t + 1) (ev_var rfl) (ev_var rfl) (Ll.sq (e11 _ _ hx2)) (by omega)) (ev_ixJ (j := t) (ev_var rfl) (ev_is (ev_rI0 (ev_var rfl) ev_c) ?_) (Ll.sq (e11 _ _ hx2)) (by omega))
        rw [show ((t + 1 : Nat) : Int) - 1 = (t : Int) by omega]
      · have : (((List.range ((xs.length : Int) - 1).toNat).map fun t => decide (xs.getD (t + 1) 0 ≤ xs.getD t 0)).all id) = true := by
          rw [List.all_eq_true]
          intro b hb
          obtain ⟨t, ht, rfl⟩ := List.mem_map.mp hb
          simpa using getD_desc ix (i := t) (j := t + 1) (by omega)
        rw [this]
theorem spv_stair {a : Addr} {xs : List Int} {H : Hp} (hx : Ll H a xs) (ix : IsP xs) : SpV sp_law_is_stair [.ref a] H (.bl true) := fun H1 e _ q _ => ⟨a, xs, rfl, e _ _ hx, ix, q⟩
def sp_law_step_right : Sp := fun vs H Q _ => ∃ (a b : Addr) (xs : List Int) (f s : Nat), vs = [.ref a, .ref b] ∧ Ll H a xs ∧ Ll H b (cutz (moved xs f s)) ∧ IsP xs ∧ f < s ∧ s ≤ xs.length ∧ IsP (cutz (moved xs f s)) ∧ RetV (.bl true) H Q
theorem ok_law_step_right (T : Tx K mg) : FnOk P w K mg base CX0 5 T.a_law_step_right T.d_law_step_right ["_law_ahead", "_law_after"] sp_law_step_right := by
  refine T.F_law_step_right.ok sc_law_step_right (fun vs H Q E h => ?_) (fun cdv A outer s H vs Q E hr h => ?_)
  · obtain ⟨a, b, xs, f, s, rfl, _⟩ := h
    rfl
  · obtain ⟨a, b, xs, f, s, rfl, hx, hy, ix, hfs, hs, iy, q⟩ := h
    refine ⟨_, (pss_cons (ps_set (i := 2) sc_law_step_right.nd rfl (Or.inl rfl) (pe_callB (call_max2 rfl) (by rfl) T.n_max (by decide +kernel) (pa_cons (pe_callB (lenK (K := K) rfl) (by rfl) T.n_len PySem.boot_len (pa_cons (pv 0) pa_nil)) (pa_cons (pe_callB (lenK (K := K) rfl) (by rfl) T.n_len PySem.boot_len (pa_cons (pv 1) pa_nil)) pa_nil))))
    (pss_cons (ps_set (i := 3) sc_law_step_right.nd rfl (Or.inr rfl) (pe_op op_cat (pv 0) (pe_op op_rep (pe_lst (pa_cons pe_int pa_nil)) (pe_op op_sub (pv 2) (pe_callB (lenK (K := K) rfl) (by rfl) T.n_len PySem.boot_len (pa_cons (pv 0) pa_nil))))))
    (pss_cons (ps_set (i := 4) sc_law_step_right.nd rfl (Or.inr rfl) (pe_op op_cat (pv 1) (pe_op op_rep (pe_lst (pa_cons pe_int pa_nil)) (pe_op op_sub (pv 2) (pe_callB (lenK (K := K) rfl) (by rfl) T.n_len PySem.boot_len (pa_cons (pv 1) pa_nil))))))
    (pss_cons (ps_setLc (i := 5) (own := [("_law_k", 6)]) (g := gName 6) (by rfl) sc_law_step_right.nd rfl rfl (sw_true rfl rfl rfl (by decide +kernel)) (pi_range1 rfl T.n_range (pa_cons (pv 2) pa_nil)) (blkOk_by (own := [("_law_k", 6)]) (N := ["_law_ahead", "_law_after", "_law_far", "_law_one", "_law_other", "_law_places", "_law_k"]) (sc := defScope s_law_step_right) (by decide +kernel)) (fun _ _ _ _ _ => (pg_name (i := 6) sc_law_step_right.nd rfl (Or.inl rfl))) (fun _ _ _ _ _ => pts_one (pt_cmpR op_ne (pe_ix (ixlK (K := K) rfl) (pv 3) (pv 6) (fun _ _ => rfl)) (pe_ix (ixlK (K := K) rfl) (pv 4) (pv 6) (fun _ _ => rfl)) (nomark _))) (fun _ _ _ _ _ => (pv 6)))
    (pss_cons (ps_if (PW.pt (pw_or (pt_cmpR op_ne (pe_callB (lenK (K := K) rfl) (by rfl) T.n_len PySem.boot_len (pa_cons (pv 5) pa_nil)) pe_int (nomark _)) (pw_or (pt_cmpR op_ne (pe_op op_sub (pe_ix (ixlK (K := K) rfl) (pv 3) (pe_ix (ixlK (K := K) rfl) (pv 5) pe_int (fun _ _ => rfl)) (fun _ _ => rfl)) (pe_ix (ixlK (K := K) rfl) (pv 4) (pe_ix (ixlK (K := K) rfl) (pv 5) pe_int (fun _ _ => rfl)) (fun _ _ => rfl))) pe_int (nomark _)) (pw_or1 (pt_cmpR op_ne (pe_op op_sub (pe_ix (ixlK (K := K) rfl) (pv 4) (pe_ix (ixlK (K := K) rfl) (pv 5) pe_int (fun _ _ => rfl)) (fun _ _ => rfl)) (pe_ix (ixlK (K := K) rfl) (pv 3) (pe_ix (ixlK (K := K) rfl) (pv 5) pe_int (fun _ _ => rfl)) (fun _ _ => rfl))) pe_int (nomark _))))))
      (pss_one (ps_ret pe_bl))
      pss_nil)
    (pss_one (ps_ret (pe_cmpR (eqK (K := K) rfl hr.units) (pe_call (ok_let_down T) (hr.mono (by decide)) (by rfl) T.g_let_down T.F_let_down.kp T.b_let_down .nil (E := E0) passL (pa_cons (pe_callTy (listK (K := K) rfl) (by rfl) T.n_list (by decide +kernel) (pa_cons (pv 0) pa_nil)) (pa_cons (pe_ix (ixlK (K := K) rfl) (pv 5) pe_int (fun _ _ => rfl)) (pa_cons (pe_ix (ixlK (K := K) rfl) (pv 5) pe_int (fun _ _ => rfl)) pa_nil)))) (pv 1) (nomark _))))))))), ?_⟩
    have sg := step_get hfs hs
    have hld : ldV xs (.int (f : Int)) (.int (s : Int)) = some (cutz (moved xs f s)) := by rw [ldV_at ⟨hfs, hs⟩, if_pos iy.is]
    generalize cutz (moved xs f s) = ys at hy iy sg hld
    have lx := ix.len
    have ly := iy.len
    have sf : s < max xs.length ys.length := by
      refine Classical.byContradiction fun c => ?_
      have h1 := sg s
      rw [getD_far (l := xs) (by omega), getD_far (l := ys) (by omega), if_neg (by omega), if_pos rfl] at h1
      omega
    have elx : ((xs.map V.int).length : Int) = (xs.length : Int) := by rw [List.length_map]
    have ely : ((ys.map V.int).length : Int) = (ys.length : Int) := by rw [List.length_map]
    generalize hfar : max xs.length ys.length = far at sf
    refine q_asg (v := .int (far : Int)) (ev_is (ev_cb (ea_cons (ev_cb (ea_cons (ev_var rfl) ea_nil) (rc_len hx.sq)) (ea_cons (ev_cb (ea_cons (ev_var rfl) ea_nil) (rc_len hy.sq)) ea_nil)) rc_max2) (by rw [elx, ely]; congr 1; split <;> omega)) fun H1 e1 => ?_
    have pad : ∀ {c : Addr} {zs : List Int} {H' : Hp} {σ : L2.St} {j : Nat}, Ll H' c zs → zs.length ≤ far → far ≤ 400 → σ[j]? = some (some (.ref c)) → σ[2]? = some (some (.int (far : Int))) →
        EvL (tOp rCat (tVar j) (tOp rRep (tLst (tCons (tC (.int 0)) tNil)) (tOp (rI0 fun i j => .int (i - j)) (tVar 2) (tCB (rLenK K) (tCons (tVar j) tNil))))) σ H' ((zs ++ List.replicate (far - zs.length) 0).map V.int) := fun {c zs H' σ j} hc hl h400 h1 h2 => by
      have elz : ((zs.map V.int).length : Int) = (zs.length : Int) := by rw [List.length_map]
      have e3 : ((far : Int) - ((zs.map V.int).length : Int)).toNat = far - zs.length := by omega
      refine el_is (el_catR (zs := zs.map V.int) (ev_var h1) (el_is (el_rep (el_lst (ea_cons ev_c ea_nil) (by show 1 ≤ 100000; decide)) (ev_rI0 (ev_var h2) (ev_cb (ea_cons (ev_var h1) ea_nil) (rc_len hc.sq))) ⟨by omega, by omega⟩ (by rw [e3]; show 1 * _ ≤ _; omega)) (by rw [noughts_flat, e3])) hc ?_) (List.map_append (f := V.int)).symm
      rw [List.length_map, List.length_map, List.length_replicate]
      omega
    refine q_asgL (pad (e1 _ _ hx) (by omega) (by omega) rfl rfl) fun p1 H2 n1 e2 h1 => ?_
    have e12 := e1.trans e2
    refine q_asgL (pad (e12 _ _ hy) (by omega) (by omega) rfl rfl) fun p2 H3 n2 e3 h2 => ?_
    have e13 := e12.trans e3
    have h1' : Ll H3 p1 (xs ++ List.replicate (far - xs.length) 0) := e3 _ _ h1
    have h2' : Ll H3 p2 (ys ++ List.replicate (far - ys.length) 0) := h2
    have l1 : (xs ++ List.replicate (far - xs.length) 0).length = far := by rw [List.length_append, List.length_replicate]; omega
    have l2 : (ys ++ List.replicate (far - ys.length) 0).length = far := by rw [List.length_append, List.length_replicate]; omega
    refine q_asgL (xs := [V.int (f : Int), .int (s : Int)]) (el_is (el_lcR1 (n := (far : Int)) (fun k => decide (k = f ∨ k = s)) (fun k => .int (k : Int)) (ea_cons (ev_var rfl) ea_nil) ⟨by omega, by omega⟩ (fun _ => rfl) (fun k H4 e4 hk => ?_) fun k H4 e4 hk _ => ev_var rfl) ?_) fun p3 H4 n3 e4 h3 => ?_
    · refine et_is (et_test (ev_ne (ev_ixJ (ev_var rfl) (ev_var rfl) (Ll.sq (e4 _ _ h1')) (by omega)) (ev_ixJ (ev_var rfl) (ev_var rfl) (Ll.sq (e4 _ _ h2')) (by omega)) rfl)) ?_
      rw [pad_get, pad_get, sg k, Bool.eq_iff_iff]
      simp
      by_cases c1 : k = f
      · rw [if_pos c1, if_neg (by omega)]
        omega
      · rw [if_neg c1]
        by_cases c2 : k = s
        · rw [if_pos c2]
          omega
        · rw [if_neg c2]
          omega
    · unfold given
      rw [Int.toNat_natCast, filter_two hfs far sf]
      rfl
    · have h14 : Ll H4 p1 (xs ++ List.replicate (far - xs.length) 0) := e4 _ _ h1'
      have h24 : Ll H4 p2 (ys ++ List.replicate (far - ys.length) 0) := e4 _ _ h2'
      have i0 : ∀ {H'}, Ex H4 H' → Ev (tOp (rIxL K) (tVar 5) (tC (.int 0))) [some (.ref a), some (.ref b), some (.int (far : Int)), some (.ref p1), some (.ref p2), some (.ref p3), none] H' (.int (f : Int)) := fun e => ev_op (ev_var rfl) ev_c (rv_ixL (sq_of (e _ _ h3)) rfl)
      have i1 : ∀ {H'}, Ex H4 H' → Ev (tOp (rIxL K) (tVar 5) (tC (.int 1))) [some (.ref a), some (.ref b), some (.int (far : Int)), some (.ref p1), some (.ref p2), some (.ref p3), none] H' (.int (s : Int)) := fun e => ev_op (ev_var rfl) ev_c (rv_ixL (sq_of (e _ _ h3)) rfl)
      refine q_when (b := false) (et_is (et_or (et_test (ev_ne (ev_cb (ea_cons (ev_var rfl) ea_nil) (rc_len (sq_of h3))) ev_c rfl)) fun _ => et_or (et_test (ev_ne (ev_rI0 (ev_ixJ (ev_var rfl) (i0 (Ex.refl _)) h14.sq (by omega)) (ev_ixJ (ev_var rfl) (i0 (Ex.refl _)) h24.sq (by omega))) ev_c rfl)) fun _ =>
        et_test (ev_ne (ev_rI0 (ev_ixJ (ev_var rfl) (i1 (Ex.refl _)) h24.sq (by omega)) (ev_ixJ (ev_var rfl) (i1 (Ex.refl _)) h14.sq (by omega))) ev_c rfl)) ?_) (fun z => by cases z) (fun _ H5 e5 => ?_)
      · have g1 := sg f
        have g2 := sg s
        rw [if_pos rfl, if_neg (by omega)] at g1
        rw [if_neg (by omega), if_pos rfl] at g2
        rw [pad_get, pad_get, pad_get, pad_get, g1, g2]
        simp
        omega
      · have e15 := (e13.trans e4).trans e5
        refine s_ret (ev_is (w := V.bl true) (ev_opL1 (el_callL3 (el_cb (ea_cons (ev_var rfl) ea_nil) (rcl_list (Ll.sq (e15 _ _ hx)))) (fun H6 e6 => ea_cons (i0 (e5.trans e6)) (ea_cons (i1 (e5.trans e6)) ea_nil)) fun p H6 e6 hp => spl_letdown hp ix hld) (fun H6 e6 => ev_var rfl) fun p H6 hp e6 => rv_eqL (sq_of hp) (Ll.sq ((e15.trans e6) _ _ hy))) (by simp)) fun H6 e6 => q H6 (e15.trans e6)
theorem spv_step {a b : Addr} {xs : List Int} {f s : Nat} {H : Hp} (hx : Ll H a xs) (hy : Ll H b (cutz (moved xs f s))) (ix : IsP xs) (h1 : f < s) (h2 : s ≤ xs.length) (iy : IsP (cutz (moved xs f s))) : SpV sp_law_step_right [.ref a, .ref b] H (.bl true) := fun H1 e _ q _ => ⟨a, b, xs, f, s, rfl, e _ _ hx, e _ _ hy, ix, h1, h2, iy, q⟩
end
/-! ### _law_is_way -/
theorem Wy.last {xs : List Int} {l : List (List Int)} {c : List Int} (h : Wy xs l c) : ∃ l0, l = l0 ++ [c] := by
  cases h with
  | one => exact ⟨[], rfl⟩
  | more => exact ⟨_, rfl⟩
theorem Wy.head {xs : List Int} {l : List (List Int)} {c : List Int} (h : Wy xs l c) : l[0]? = some xs := by
  induction h with
  | one => rfl
  | more h _ _ _ ih =>
    obtain ⟨l0, rfl⟩ := h.last
    rw [List.getElem?_append_left (by simp)]
    exact ih
theorem Wy.parts {xs : List Int} {l : List (List Int)} {c : List Int} (ix : IsP xs) (h : Wy xs l c) : ∀ x ∈ l, IsP x := by
  induction h with
  | one =>
    intro x hx
    rw [List.mem_singleton.mp hx]
    exact ix
  | more _ _ _ i ih =>
    intro x hx
    rcases List.mem_append.mp hx with hx | hx
    · exact ih x hx
    · rw [List.mem_singleton.mp hx]
      exact i
theorem Wy.step {xs : List Int} {l : List (List Int)} {c : List Int} (h : Wy xs l c) : ∀ {k : Nat} {x y : List Int}, l[k]? = some x → l[k + 1]? = some y → ∃ f s, f < s ∧ s ≤ x.length ∧ y = cutz (moved x f s) := by
  induction h with
  | one =>
    intro k x y _ h2
    simp at h2
  | @more l c f s h h1 h2 _ ih =>
    intro k x y e1 e2
    by_cases hk : k + 1 < l.length
    · rw [List.getElem?_append_left (by omega)] at e1
      rw [List.getElem?_append_left hk] at e2
      exact ih e1 e2
    · obtain ⟨l0, rfl⟩ := h.last
      have hl := lt_of_get e2
      rw [List.length_append] at hl hk
      simp at hl hk
      have ek : k = l0.length := by omega
      subst ek
      rw [List.getElem?_append_left (by simp)] at e1
      simp at e1
      rw [List.getElem?_append_right (by simp)] at e2
      simp at e2
      subst e1 e2
      exact ⟨f, s, h1, h2, rfl⟩
/-- the first i parts with a 0 behind -/
def apps (xss : List (List Int)) (i : Nat) : List (List Int) := (xss.take i).map (· ++ [0]) ++ xss.drop i
theorem apps_set {xss : List (List Int)} {i : Nat} {y : List Int} (h : xss[i]? = some y) : (apps xss i).set i (y ++ [0]) = apps xss (i + 1) := by
  have hi := lt_of_get h
  have hl : ((xss.take i).map (· ++ [0])).length = i := by simp; omega
  unfold apps
  rw [take_one h, drop_one h, List.set_append_right _ _ (by omega), hl, Nat.sub_self]
  simp
theorem apps_get {xss : List (List Int)} {i : Nat} {y : List Int} (h : xss[i]? = some y) : (apps xss i)[i]? = some y := by
  have hi := lt_of_get h
  have hl : ((xss.take i).map (· ++ [0])).length = i := by simp; omega
  unfold apps
  rw [List.getElem?_append_right (by omega), hl, Nat.sub_self, drop_one h]
  rfl
section
variable {P : Program} {w : World} {K : PySem.W.Frag} {mg : Str → Option Value} {base : Heap}
def sp_law_is_way : Sp := fun vs H Q _ => ∃ (p a b : Addr) (zs : List V) (xss : List (List Int)) (xs ys : List Int) (H0 : Hp), vs = [.ref p, .ref a, .ref b] ∧ H p = some (.lst zs) ∧ Ll H a xs ∧ Ll H b ys ∧ IsP xs ∧ Lls H zs xss ∧ Wy xs xss ys ∧ xss.length ≤ 1000 ∧ zs.Nodup ∧
  Ex H0 H ∧ (∀ z ∈ zs, z ≠ .ref p ∧ NewV H0 z) ∧ ∀ H2, Ex H0 H2 → Q (.bl true) H2
theorem ok_law_is_way (T : Tx K mg) : FnOk P w K mg base CX0 6 T.a_law_is_way T.d_law_is_way ["_law_found", "_law_one", "_law_other"] sp_law_is_way := by
  refine T.F_law_is_way.ok sc_law_is_way (fun vs H Q E h => ?_) (fun cdv A outer s H vs Q E hr h => ?_)
  · obtain ⟨p, a, b, zs, xss, xs, ys, H0, rfl, _⟩ := h
    rfl
  · obtain ⟨p, a, b, zs, xss, xs, ys, H0, rfl, hp, hx, hy, ix, hL, wy, hlen, hnd, e0, hnew, q⟩ := h
    refine ⟨_, (pss_cons (ps_if (PW.pt (pw_or (pt_not (pt_val (pe_callB (isiK (K := K) rfl) (by rfl) T.n_isinstance (by decide +kernel) (pa_cons (pv 0) (pa_cons (pe_bltn (v := .ty "list") (u := .type "list") (by rfl) T.n_list (by decide +kernel) rfl) pa_nil))))) (pw_or (pt_cmpR (eqK (K := K) rfl hr.units) (pv 0) (pe_lst pa_nil) (nomark _)) (pw_or1 (pt_not (pt_val (pe_callB (allK (K := K) rfl rfl) (by rfl) T.n_all (by decide +kernel) (pa_cons (pe_lc (own := [("_law_parting", 3)]) (g := gName 3) (by rfl) sc_law_is_way.nd (pi_list (pv 0)) (blkOk_by (own := [("_law_parting", 3)]) (N := ["_law_found", "_law_one", "_law_other", "_law_parting", "_law_kept", "_law_k"]) (sc := defScope s_law_is_way) (by decide +kernel)) (fun _ _ _ _ _ => (pg_name (i := 3) sc_law_is_way.nd rfl (Or.inl rfl))) (fun _ _ _ _ _ => pts_nil) (fun _ _ _ _ _ => (pe_call (ok_law_is_stair T) (hr.mono (by decide)) (by rfl) T.g_law_is_stair T.F_law_is_stair.kp T.b_law_is_stair .nil pass0 (pa_cons (pv 3) pa_nil)))) pa_nil))))))))
      (pss_one (ps_ret pe_bl))
      pss_nil)
    (pss_cons (ps_if (PW.pt (pw_or (pt_cmpR (neK (K := K) rfl hr.units) (pe_ix (ixlK (K := K) rfl) (pv 0) pe_int (fun _ _ => rfl)) (pv 1) (nomark _)) (pw_or1 (pt_cmpR (neK (K := K) rfl hr.units) (pe_ix (ixlK (K := K) rfl) (pv 0) (pe_un un_neg pe_int) (fun _ _ => rfl)) (pv 2) (nomark _)))))
      (pss_one (ps_ret pe_bl))
      pss_nil)
    (pss_cons (ps_setLc (i := 4) (own := [("_law_parting", 3)]) (g := gName 3) (by rfl) sc_law_is_way.nd rfl rfl (sw_true rfl rfl rfl (by decide +kernel)) (pi_list (pv 0)) (blkOk_by (own := [("_law_parting", 3)]) (N := ["_law_found", "_law_one", "_law_other", "_law_parting", "_law_kept", "_law_k"]) (sc := defScope s_law_is_way) (by decide +kernel)) (fun _ _ _ _ _ => (pg_name (i := 3) sc_law_is_way.nd rfl (Or.inl rfl))) (fun _ _ _ _ _ => pts_nil) (fun _ _ _ _ _ => (pe_callTy (listK (K := K) rfl) (by rfl) T.n_list (by decide +kernel) (pa_cons (pv 3) pa_nil))))
    (pss_cons (ps_for PassesOwn.never rfl (pi_range2 (by rfl) T.n_range (pa_cons pe_int (pa_cons (pe_callB (lenK (K := K) rfl) (by rfl) T.n_len PySem.boot_len (pa_cons (pv 0) pa_nil)) pa_nil))) (pg_name (i := 5) sc_law_is_way.nd rfl (Or.inl rfl))
      (pss_one (ps_if (pt_not (pt_val (pe_call (ok_law_step_right T) (hr.mono (by decide)) (by rfl) T.g_law_step_right T.F_law_step_right.kp T.b_law_step_right .nil pass0 (pa_cons (pe_ix (ixlK (K := K) rfl) (pv 4) (pe_op op_sub (pv 5) pe_int) (fun _ _ => rfl)) (pa_cons (pe_ix (ixlK (K := K) rfl) (pv 4) (pv 5) (fun _ _ => rfl)) pa_nil)))))
        (pss_one (ps_ret pe_bl))
        pss_nil)))
    (pss_cons (ps_for PassesOwn.never rfl (pi_list (pv 0)) (pg_name (i := 3) sc_law_is_way.nd rfl (Or.inl rfl))
      (pss_one (ps_expr (pe_bm PySem.F.plainAttrs_list PySem.F.slot_list_append PySem.F.type_list_append mt_append (pv 3) (pa_cons pe_int pa_nil)))))
    (pss_one (ps_ret (pe_cmpR (eqK (K := K) rfl hr.units) (pv 0) (pe_lc (own := [("_law_parting", 3)]) (g := gName 3) (by rfl) sc_law_is_way.nd (pi_list (pv 4)) (blkOk_by (own := [("_law_parting", 3)]) (N := ["_law_found", "_law_one", "_law_other", "_law_parting", "_law_kept", "_law_k"]) (sc := defScope s_law_is_way) (by decide +kernel)) (fun _ _ _ _ _ => (pg_name (i := 3) sc_law_is_way.nd rfl (Or.inl rfl))) (fun _ _ _ _ _ => pts_nil) (fun _ _ _ _ _ => (pe_op op_cat (pv 3) (pe_lst (pa_cons pe_int pa_nil))))) (nomark _))))))))), ?_⟩
    have hll := hL.len
    have parts := wy.parts ix
    obtain ⟨l0, hl0⟩ := wy.last
    have hne : xss ≠ [] := by
      rw [hl0]
      simp
    refine q_when (b := false) (et_is (et_or (et_not (et_B (ev_cb (ea_cons (ev_var rfl) (ea_cons ev_c ea_nil)) (rc_isiL hp)))) fun _ => et_or (et_test (ev_opL (ev_var rfl) (el_lst (vs := []) ea_nil (by decide)) fun o H1 ho e1 => rv_eqLL (xss := xss) (yss := []) (sq_of (e1 _ _ hp)) (hL.mono e1) (sq_of ho) .nil)) fun _ =>
      et_not (et_B (ev_cbL (el_is (el_lcL (fun _ => true) (fun _ => V.bl true) (ev_var rfl) (sq_of hp) (by omega) (fun _ => rfl) (fun _ _ _ _ _ => et_yes) fun i x H1 e1 hi _ => ?_) (show _ = ((List.range zs.length).map fun _ => true).map V.bl by rw [given_all, List.map_map]; rfl)) fun o H1 _ ho => rc_all (sq_of ho)))) ?_) (fun z => by cases z) (fun _ H1 e1 => ?_)
    · obtain ⟨r, x', rfl, h1, h2⟩ := hL.at hi
      exact ev_call (ea_cons (ev_var rfl) ea_nil) (spv_stair (e1 _ _ h2) (parts _ (List.mem_of_getElem? h1)))
    · have : (((List.range zs.length).map fun _ => true).all id) = true := by
        rw [List.all_eq_true]
        intro b hb
        obtain ⟨_, _, rfl⟩ := List.mem_map.mp hb
        rfl
      rw [this, decide_eq_false hne]
      rfl
    · have hp1 := e1 _ _ hp
      have hL1 := hL.mono e1
      obtain ⟨z0, hz0, h0⟩ := hL1.get wy.head
      obtain ⟨z9, hz9, h9⟩ := hL1.get (k := l0.length) (x := ys) (by rw [hl0]; simp)
      have hend : zs.length = l0.length + 1 := by
        rw [hll, hl0]
        simp
      refine q_when (b := false) (et_is (et_or (et_test (ev_op (ev_op (ev_var rfl) ev_c (rv_ixL (sq_of hp1) (atI_nat (j := 0) hz0))) (ev_var rfl) (rv_neL h0.sq (Ll.sq (e1 _ _ hx))))) fun _ => et_test (ev_op (ev_op (ev_var rfl) (ev_un ev_c ru_neg) (rv_ixL (sq_of hp1) (atI_end hz9 hend))) (ev_var rfl) (rv_neL h9.sq (Ll.sq (e1 _ _ hy))))) (by simp)) (fun z => by cases z) (fun _ H2 e2 => ?_)
      have hp2 := e2 _ _ hp1
      have hL2 := hL1.mono e2
      have nth : ∀ i, i < xss.length → xss[i]? = some (xss.getD i []) := fun i hi => by simp [List.getD, hi]
      refine q_asgP (el_lcLL (fun i => xss.getD i []) (ev_var rfl) (sq_of hp2) (by omega) (fun _ => rfl) fun i x H3 hi e3 => ?_) fun v H3 e3 hv => ?_
      · obtain ⟨r, x', rfl, h1, h2⟩ := hL2.at hi
        have ex : xss.getD i [] = x' := by simp [List.getD, h1]
        rw [ex]
        exact el_cb (ea_cons (ev_var rfl) ea_nil) (rcl_list (Ll.sq (e3 _ _ h2)))
      · obtain ⟨D, ks, rfl, nD, hD, hK, nK⟩ := hv
        have eK : (List.range zs.length).map (fun i => xss.getD i []) = xss := by
          rw [hll]
          refine List.ext_getElem (by simp) fun i h1 h2 => ?_
          simp [List.getD, h2]
        rw [eK] at hK
        have hkl := hK.len
        have hp3 := e3 _ _ hp2
        have hL3 := hL2.mono e3
        have elz : ((zs.length : Nat) : Int) = (xss.length : Int) := by rw [hll]
        refine q_forR2 (lo := 1) (n := (xss.length : Int)) (ea_cons ev_c (ea_cons (ev_is (ev_cb (ea_cons (ev_var rfl) ea_nil) (rc_len (sq_of hp3))) (by rw [elz])) ea_nil)) ⟨by decide, by decide, by omega, by omega⟩ (fun i σ' H' => ∃ y5 : Option V, σ' = [some (.ref p), some (.ref a), some (.ref b), none, some (.ref D), y5] ∧ Ex H3 H') (fun H4 e4 => ⟨none, rfl, e4⟩) (fun i σ' H' hi hP => ?_) (fun σ' H' hP => ?_)
        · obtain ⟨y5, rfl, eH⟩ := hP
          have e1i : (1 : Int) + (i : Int) = ((i + 1 : Nat) : Int) := by omega
          rw [e1i]
          have n1 := nth i (by omega)
          have n2 := nth (i + 1) (by omega)
          obtain ⟨f, s, hfs, hs, hst⟩ := wy.step n1 n2
          obtain ⟨k1, g1, m1⟩ := (hK.mono eH).get n1
          obtain ⟨k2, g2, m2⟩ := (hK.mono eH).get n2
          rw [hst] at m2
          have i2 := parts _ (List.mem_of_getElem? n2)
          rw [hst] at i2
          have hDH := eH _ _ hD
          refine s_when (b := false) (et_is (et_not (et_B (ev_call (ea_cons (ev_op (ev_var rfl) (ev_is (w := V.int (i : Int)) (ev_rI0 (ev_var rfl) ev_c) ?_) (rv_ixL (sq_of hDH) (atI_nat g1))) (ea_cons (ev_op (ev_var rfl) (ev_var rfl) (rv_ixL (sq_of hDH) (atI_nat g2))) ea_nil)) (spv_step m1 m2 (parts _ (List.mem_of_getElem? n1)) hfs hs i2)))) rfl) (fun z => by cases z) (fun _ H4 e4 => ?_)
          · rw [show ((i + 1 : Nat) : Int) - 1 = (i : Int) by omega]
          · exact ⟨_, rfl, eH.trans e4⟩
        · obtain ⟨y5, rfl, eH⟩ := hP
          have e0H : Ex H0 H' := (((e0.trans e1).trans e2).trans e3).trans eH
          have hpH := eH _ _ hp3
          have hLH := hL3.mono eH
          have hKH := hK.mono eH
          have hDH := eH _ _ hD
          have apart : ∀ r : Addr, V.ref r ∈ zs → (∀ k ∈ ks, k ≠ .ref r) ∧ D ≠ r ∧ p ≠ r ∧ H0 r = none := fun r hr => by
            obtain ⟨k, hk, ek⟩ := List.mem_iff_getElem.mp hr
            obtain ⟨r', x', e1', _, hx'⟩ := hL2.at (k := k) (by rw [List.getElem?_eq_getElem hk, ek])
            cases e1'
            refine ⟨fun y hy z => ?_, fun z => ?_, fun z => (hnew _ hr).1 (by rw [z]), ?_⟩
            · obtain ⟨r2, e2', n2'⟩ := nK y hy
              rw [z] at e2'
              cases e2'
              rw [hx'] at n2'
              cases n2'
            · rw [z, hx'] at nD
              cases nD
            · obtain ⟨r3, e3', n3'⟩ := (hnew _ hr).2
              cases e3'
              exact n3'
          refine q_forLn (ev_var rfl) (sq_of hpH) (fun i σ' H' => ∃ y3 : Option V, σ' = [some (.ref p), some (.ref a), some (.ref b), y3, some (.ref D), y5] ∧ Ex H0 H' ∧ H' p = some (.lst zs) ∧ Lls H' zs (apps xss i) ∧ H' D = some (.lst ks) ∧ Lls H' ks xss)
            (fun H4 e4 => ⟨none, rfl, e0H.trans e4, e4 _ _ hpH, (hLH.mono e4 : Lls H4 zs (apps xss 0)), e4 _ _ hDH, hKH.mono e4⟩) (fun i σ' H' _ hP => ?_) (fun i x σ' H' hx' hP => ?_) (fun σ' H' hP => ?_)
          · obtain ⟨_, _, _, hp', _⟩ := hP
            exact sq_of hp'
          · obtain ⟨y3, rfl, eG, hp', hL', hD', hK'⟩ := hP
            have hi : i < xss.length := by
              have := lt_of_get hx'
              omega
            have n1 := nth i hi
            obtain ⟨r, y, rfl, g1, m1⟩ := hL'.at hx'
            rw [apps_get n1] at g1
            cases g1
            obtain ⟨a1, a2, a3, a4⟩ := apart r (List.mem_of_getElem? hx')
            have ly := (parts _ (List.mem_of_getElem? n1)).len
            refine s_app m1 (ev_var rfl) ev_c (by rw [List.length_map]; omega) fun H4 e4 => ?_
            have ea : (xss.getD i []).map V.int ++ [V.int 0] = (xss.getD i [] ++ [0]).map V.int := by rw [List.map_append]; rfl
            rw [ea]
            refine ⟨_, rfl, (eG.trans e4).mut a4, (upd_ne a3).trans (e4 _ _ hp'), ?_, (upd_ne a2).trans (e4 _ _ hD'), (hK'.mono e4).upd a1⟩
            have := (hL'.mono e4).put (y := xss.getD i [] ++ [0]) hnd hx'
            rw [apps_set n1] at this
            exact this
          · obtain ⟨y3, rfl, eG, hp', hL', hD', hK'⟩ := hP
            have ea : apps xss zs.length = xss.map (· ++ [0]) := by
              unfold apps
              rw [hll, List.take_length, List.drop_length, List.append_nil]
            rw [ea] at hL'
            refine s_ret (ev_is (v := V.bl (decide (xss.map (· ++ [0]) = xss.map (· ++ [0])))) (w := V.bl true) (ev_opP (ev_var rfl) (el_lcLL (fun i => xss.getD i [] ++ [0]) (ev_var rfl) (sq_of hD') (by omega) (fun _ => rfl) fun i x H3 hi e3 => ?_) fun v H3 e3 hv => ?_) ?_) fun H4 e4 => q H4 (eG.trans e4)
            · obtain ⟨r, x', rfl, h1, h2⟩ := hK'.at hi
              have ex : xss.getD i [] = x' := by simp [List.getD, h1]
              rw [ex]
              have lx' := (parts _ (List.mem_of_getElem? h1)).len
              exact el_is (el_catR (ev_var rfl) (el_lst (ea_cons ev_c ea_nil) (by show 1 ≤ 100000; decide)) (e3 _ _ h2) (by rw [List.length_map]; show x'.length + 1 ≤ 100000; omega)) (by rw [List.map_append]; rfl)
            · obtain ⟨D2, zs2, rfl, _, hD2, hL2', _⟩ := hv
              have eK2 : (List.range ks.length).map (fun i => xss.getD i [] ++ [0]) = xss.map (· ++ [0]) := by
                rw [hkl]
                refine List.ext_getElem (by simp) fun i h1 h2 => ?_
                simp at h2
                simp [List.getD, h2]
              rw [eK2] at hL2'
              exact rv_eqLL (sq_of (e3 _ _ hp')) (hL'.mono e3) (sq_of hD2) hL2'
            · simp
end
/-! ### _law_to, _law_lacks, the law -/
section
variable {P : Program} {w : World} {K : PySem.W.Frag} {mg : Str → Option Value} {base : Heap}
theorem IsP.take {xs : List Int} (h : IsP xs) (i : Nat) : IsP (xs.take i) := by
  refine ⟨fun x hx => h.1 x (List.mem_of_mem_take hx), h.2.1.sublist (List.take_sublist i xs), ?_⟩
  have e : (xs.take i).sum + (xs.drop i).sum = xs.sum := by rw [← sum_append, List.take_append_drop]
  have nn : 0 ≤ (xs.drop i).sum := sum_nn fun x hx => by
    have := h.1 x (List.mem_of_mem_drop hx)
    omega
  have := h.2.2
  omega
/-- the first boxes of xs, at most m of them -/
def ToP (m : Int) (xs : List Int) (r : List Int) : Prop := IsP r ∧ r.sum = (if xs.sum < m then xs.sum else m)
def sp_law_to : Sp := fun vs H Q _ => ∃ (a : Addr) (xs : List Int) (m : Int), vs = [.ref a, .int m] ∧ Ll H a xs ∧ IsP xs ∧ 0 ≤ m ∧ m ≤ 200 ∧ RetLP (ToP m xs) H Q
theorem ok_law_to (T : Tx K mg) : FnOk P w K mg base CX0 1 T.a_law_to T.d_law_to ["_law_parting", "_law_most"] sp_law_to := by
  refine T.F_law_to.ok sc_law_to (fun vs H Q E h => ?_) (fun cdv A outer s H vs Q E hr h => ?_)
  · obtain ⟨a, xs, m, rfl, _⟩ := h
    rfl
  · obtain ⟨a, xs, m, rfl, hx, ix, m0, m2, q⟩ := h
    refine ⟨_, (pss_cons (ps_set (i := 2) sc_law_to.nd rfl (Or.inl rfl) (pe_lst pa_nil))
    (pss_cons (ps_for PassesOwn.never rfl (pi_list (pv 0)) (pg_name (i := 3) sc_law_to.nd rfl (Or.inl rfl))
      (pss_cons (ps_set (i := 4) sc_law_to.nd rfl (Or.inl rfl) (pe_op op_sub (pv 1) (pe_callB (sumK (K := K) rfl rfl) (by rfl) T.n_sum (by decide +kernel) (pa_cons (pv 2) pa_nil))))
      (pss_one (ps_if (pt_cmpR op_gt (pv 4) pe_int (nomark _))
        (pss_one (ps_expr (pe_bm PySem.F.plainAttrs_list PySem.F.slot_list_append PySem.F.type_list_append mt_append (pv 2) (pa_cons (pe_callB (call_min2 rfl) (by rfl) T.n_min (by decide +kernel) (pa_cons (pv 3) (pa_cons (pv 4) pa_nil))) pa_nil))))
        pss_nil))))
    (pss_one (ps_ret (pv 2))))), ?_⟩
    refine q_asgL (xs := []) (el_lst ea_nil (by decide)) fun p H1 np e1 hp => ?_
    refine q_forLn (ev_var rfl) (Ll.sq (e1 _ _ hx)) (fun i σ' H' => ∃ (r : List Int) (y3 y4 : Option V), σ' = [some (.ref a), some (.int m), some (.ref p), y3, y4] ∧ Ex H H' ∧ Ll H' p r ∧ ((r = xs.take i ∧ (xs.take i).sum ≤ m) ∨ (r.sum = m ∧ m ≤ (xs.take i).sum ∧ IsP r)))
      (fun H2 e2 => ⟨[], none, none, rfl, e1.trans e2, e2 _ _ hp, .inl ⟨rfl, m0⟩⟩) (fun i σ' H' _ hP => ?_) (fun i x σ' H' hi hP => ?_) (fun σ' H' hP => ?_)
    · obtain ⟨_, _, _, _, eH, _⟩ := hP
      exact Ll.sq (eH _ _ hx)
    · obtain ⟨r, y3, y4, rfl, eH, hr, hc⟩ := hP
      obtain ⟨z, hz, rfl⟩ := get_int hi
      have z1 := ix.1 z (List.mem_of_getElem? hz)
      have tn : (xs.take (i + 1)).sum = (xs.take i).sum + z := by
        rw [take_one hz, sum_append]
        show _ + (z + 0) = _
        omega
      refine q_asg (ev_rI0 (ev_var rfl) (ev_cb (ea_cons (ev_var rfl) ea_nil) (rc_sum hr.sq))) fun H2 e2 => ?_
      refine s_when (b := decide (0 < m - r.sum)) (et_test (ev_rI0 (ev_var rfl) ev_c)) (fun hb H3 e3 => ?_) (fun hb H3 e3 => ?_)
      · have hb' := of_decide_eq_true hb
        rcases hc with ⟨rfl, hle⟩ | ⟨h1, _, _⟩
        · have ll := (ix.take i).len
          refine s_app ((e2.trans e3) _ _ hr) (ev_var rfl) (ev_cb (ea_cons (ev_var rfl) (ea_cons (ev_var rfl) ea_nil)) rc_min2) (by rw [List.length_map]; omega) fun H4 e4 => ?_
          refine ⟨xs.take i ++ [if m - (xs.take i).sum < z then m - (xs.take i).sum else z], _, _, rfl, ((eH.trans (e2.trans e3)).trans e4).mut np, ?_, ?_⟩
          · show upd H4 p _ p = _
            rw [upd_same, List.map_append]
            rfl
          · by_cases c : m - (xs.take i).sum < z
            · rw [if_pos c]
              refine .inr ⟨by rw [sum_append]; show _ + (_ + 0) = m; omega, by omega, ⟨fun y hy => ?_, ?_, ?_⟩⟩
              · rcases List.mem_append.mp hy with hy | hy
                · exact (ix.take i).1 y hy
                · rw [List.mem_singleton.mp hy]
                  omega
              · refine List.pairwise_append.mpr ⟨(ix.take i).2.1, by simp, fun y hy y' hy' => ?_⟩
                rw [List.mem_singleton.mp hy']
                obtain ⟨k, hk, rfl⟩ := List.mem_iff_getElem.mp hy
                have hi' := lt_of_get hz
                rw [List.length_take] at hk
                have hd := List.pairwise_iff_getElem.mp ix.2.1 k i (by omega) hi' (by omega)
                have ez : xs[i] = z := (List.getElem?_eq_some_iff.mp hz).2
                rw [List.getElem_take]
                omega
              · rw [sum_append]
                show _ + (_ + 0) ≤ 200
                omega
            · rw [if_neg c]
              exact .inl ⟨by rw [take_one hz], by omega⟩
        · omega
      · have hb' := of_decide_eq_false hb
        refine ⟨r, _, _, rfl, eH.trans (e2.trans e3), (e2.trans e3) _ _ hr, ?_⟩
        rcases hc with ⟨rfl, hle⟩ | ⟨h1, h2, h3⟩
        · exact .inr ⟨by omega, by omega, ix.take i⟩
        · exact .inr ⟨h1, by omega, h3⟩
    · obtain ⟨r, y3, y4, rfl, eH, hr, hc⟩ := hP
      rw [List.length_map, List.take_length] at hc
      refine s_ret (ev_var rfl) fun H2 e2 => q p r H2 np (eH.trans e2) (e2 _ _ hr) ?_
      rcases hc with ⟨rfl, hle⟩ | ⟨h1, h2, h3⟩
      · refine ⟨ix, ?_⟩
        split <;> omega
      · refine ⟨h3, ?_⟩
        split <;> omega
theorem evP_to {a : Addr} {xs : List Int} {m : Int} {σ : L2.St} {H : Hp} {ta : TA} {E : XK} (h : EvA ta σ H [.ref a, .int m]) (hx : Ll H a xs) (ix : IsP xs) (m0 : 0 ≤ m) (m2 : m ≤ 200) :
    EvP (tCall sp_law_to [] E ta) σ H (fun v H1 => ∃ (p : Addr) (r : List Int), v = .ref p ∧ Ll H1 p r ∧ ToP m xs r) :=
  evP_call h fun H1 e Q q E => ⟨a, xs, m, rfl, e _ _ hx, ix, m0, m2, fun p r H2 np e2 hp hr => q _ _ e2 ⟨p, r, rfl, hp, hr⟩⟩
def sp_law_lacks : Sp := fun vs H Q _ => ∃ (a b : Addr) (xs ys : List Int), vs = [.ref a, .ref b] ∧ Ll H a xs ∧ Ll H b ys ∧ IsP xs ∧ IsP ys ∧ xs.sum = ys.sum ∧ lackV xs ys ≠ .non ∧ RetV (.bl true) H Q
theorem ok_law_lacks (T : Tx K mg) : FnOk P w K mg base CX0 6 T.a_law_lacks T.d_law_lacks ["_law_one", "_law_other"] sp_law_lacks := by
  refine T.F_law_lacks.ok sc_law_lacks (fun vs H Q E h => ?_) (fun cdv A outer s H vs Q E hr h => ?_)
  · obtain ⟨a, b, xs, ys, rfl, _⟩ := h
    rfl
  · obtain ⟨a, b, xs, ys, rfl, hx, hy, ix, iy, he, hn, q⟩ := h
    refine ⟨_, (pss_cons (ps_set (i := 2) sc_law_lacks.nd rfl (Or.inl rfl) (pe_call (ok_lacking_count T) (hr.mono (by decide)) (by rfl) T.g_lacking_count T.F_lacking_count.kp T.b_lacking_count .nil (E := E0) passL (pa_cons (pv 0) (pa_cons (pv 1) pa_nil))))
    (pss_cons (ps_if (PW.pt (pw_or (pt_not (pt_val (pe_callB (isiK (K := K) rfl) (by rfl) T.n_isinstance (by decide +kernel) (pa_cons (pv 2) (pa_cons (pe_bltn (v := .ty "int") (u := .type "int") (by rfl) T.n_int (by decide +kernel) rfl) pa_nil))))) (pw_or (pt_val (pe_callB (isiK (K := K) rfl) (by rfl) T.n_isinstance (by decide +kernel) (pa_cons (pv 2) (pa_cons (pe_bltn (v := .ty "bool") (u := .type "bool") (by rfl) T.n_bool (by decide +kernel) rfl) pa_nil)))) (pw_or1 (pt_cmpR op_lt (pv 2) pe_int (nomark _))))))
      (pss_one (ps_ret pe_bl))
      pss_nil)
    (pss_one (ps_ret (pe_cmpR op_lt (pe_callB (sumK (K := K) rfl rfl) (by rfl) T.n_sum (by decide +kernel) (pa_cons (pe_slice (sllK (K := K) rfl) (pv 0) po_none (po_some (pv 2))) pa_nil)) (pe_callB (sumK (K := K) rfl rfl) (by rfl) T.n_sum (by decide +kernel) (pa_cons (pe_slice (sllK (K := K) rfl) (pv 1) po_none (po_some (pv 2))) pa_nil)) (nomark _)))))), ?_⟩
    obtain ⟨m, h1, h2, h3, h4⟩ := firstF_some (P := lead xs ys) (i := 0) (n := max xs.length ys.length) rfl hn
    have h1' : lackV xs ys = .int (m : Int) := h1
    have ev := spv_lacking (C := T.C_NoFit) hx hy ix iy he
    rw [h1'] at ev
    refine q_asg (ev_call (ea_cons (ev_var rfl) (ea_cons (ev_var rfl) ea_nil)) ev) fun H1 e1 => ?_
    refine q_when (b := false) (et_is (et_or (et_not (et_B (ev_cb (ea_cons (ev_var rfl) (ea_cons ev_c ea_nil)) rc_isiInt))) fun _ => et_or (et_B (ev_cb (ea_cons (ev_var rfl) (ea_cons ev_c ea_nil)) rc_isiBool)) fun _ => et_test (ev_rI0 (ev_var rfl) ev_c)) (by simp; omega)) (fun z => by cases z) (fun _ H2 e2 => ?_)
    have e12 := e1.trans e2
    have part : ∀ {c : Addr} {zs : List Int} {j : Nat}, Ll H c zs → [some (V.ref a), some (.ref b), some (.int (m : Int))][j]? = some (some (.ref c)) → Ev (tCB (rSum K) (tCons (tSl (rSlL K) (tVar j) tNoPart (tPart (tVar 2))) tNil)) [some (V.ref a), some (.ref b), some (.int (m : Int))] H2 (.int (zs.take m).sum) := fun {c zs j} hc hv =>
      ev_cbL (el_is (el_sl (ev_var hv) eo_none (eo_some (ev_var rfl)) (Ll.sq (e12 _ _ hc))) (by rw [cut_upto, ← List.map_take])) fun p H1 _ hp => rc_sum (sq_of hp)
    refine s_ret (ev_is (w := V.bl true) (ev_rI0 (part hx rfl) (part hy rfl)) ?_) fun H3 e3 => q H3 (e12.trans e3)
    unfold lead at h4
    rw [decide_eq_true (show (xs.take m).sum < (ys.take m).sum by omega)]
theorem spv_lacks {a b : Addr} {xs ys : List Int} {H : Hp} (hx : Ll H a xs) (hy : Ll H b ys) (ix : IsP xs) (iy : IsP ys) (he : xs.sum = ys.sum) (hn : lackV xs ys ≠ .non) : SpV sp_law_lacks [.ref a, .ref b] H (.bl true) := fun H1 e _ q _ => ⟨a, b, xs, ys, rfl, e _ _ hx, e _ _ hy, ix, iy, he, hn, q⟩
theorem spv_wayN {a b : Addr} {xs ys : List Int} {H : Hp} (hx : Ll H a xs) (hy : Ll H b ys) (ix : IsP xs) (iy : IsP ys) (he : xs.sum = ys.sum) (h30 : xs.sum ≤ 30) (hn : lackV xs ys ≠ .non) : SpV sp_way_down [.ref a, .ref b] H .non := fun H1 e _ q _ => ⟨a, b, xs, ys, rfl, e _ _ hx, e _ _ hy, ix, iy, he, h30, fun _ => q, fun z => absurd z hn⟩
theorem evP_way {a b : Addr} {xs ys : List Int} {σ : L2.St} {H : Hp} {ta : TA} {E : XK} (h : EvA ta σ H [.ref a, .ref b]) (hx : Ll H a xs) (hy : Ll H b ys) (ix : IsP xs) (iy : IsP ys) (he : xs.sum = ys.sum) (h30 : xs.sum ≤ 30) (hn : lackV xs ys = .non) :
    EvP (tCall sp_way_down [] E ta) σ H (fun v H1 => ∃ (p : Addr) (zs : List V) (xss : List (List Int)), v = .ref p ∧ H1 p = some (.lst zs) ∧ Lls H1 zs xss ∧ (∀ z ∈ zs, z ≠ .ref p ∧ NewV H z) ∧ zs.Nodup ∧ Wy xs xss ys ∧ xss.length ≤ 1000) :=
  evP_call h fun H1 e Q q E => ⟨a, b, xs, ys, rfl, e _ _ hx, e _ _ hy, ix, iy, he, h30, fun z => absurd hn z, fun _ p zs xss H2 np e2 hp hL hnew hnd wy hlen => q _ _ e2 ⟨p, zs, xss, rfl, hp, hL, fun z hz => by
    obtain ⟨h1, r, h2, h3⟩ := hnew z hz
    exact ⟨h1, r, h2, fresh_back e h3⟩, hnd, wy, hlen⟩⟩
def sp_law (K : PySem.W.Frag) : Sp := fun vs H Q _ => ∃ (a : Addr) (ns : List Int), vs = [.ref a] ∧ SqL K H a (ns.map V.int) ∧ ns.length ≤ 63 ∧ ∀ H', Q (.bl true) H'
theorem ok_law (T : Tx K mg) : FnOk P w K mg base CX0 7 T.a_law T.d_law ["_law_script"] (sp_law K) := by
  refine T.F_law.ok sc_law (fun vs H Q E h => ?_) (fun cdv A outer s H vs Q E hr h => ?_)
  · obtain ⟨a, ns, rfl, _⟩ := h
    rfl
  · obtain ⟨a, ns, rfl, hS, hlen, q⟩ := h
    refine ⟨_, (pss_cons (ps_set (i := 1) sc_law.nd rfl (Or.inl rfl) (pe_call (ok_law_pair_by T) (hr.mono (by decide)) (by rfl) T.g_law_pair_by T.F_law_pair_by.kp T.b_law_pair_by .nil pass0 (pa_cons (pv 0) pa_nil)))
    (pss_cons (ps_set (i := 1) sc_law.nd rfl (Or.inl rfl) (pe_tup (pa_cons (pe_call (ok_law_to T) (hr.mono (by decide)) (by rfl) T.g_law_to T.F_law_to.kp T.b_law_to .nil pass0 (pa_cons (pe_ix (ixtK (K := K) rfl) (pv 1) pe_int (fun _ _ => rfl)) (pa_cons pe_int pa_nil))) (pa_cons (pe_call (ok_law_to T) (hr.mono (by decide)) (by rfl) T.g_law_to T.F_law_to.kp T.b_law_to .nil pass0 (pa_cons (pe_ix (ixtK (K := K) rfl) (pv 1) pe_int (fun _ _ => rfl)) (pa_cons pe_int pa_nil))) pa_nil))))
    (pss_cons (ps_for (g := g2n K 2 3) PassesOwn.never rfl (pi_list (pe_lst (pa_cons (pe_tup (pa_cons (pe_ix (ixtK (K := K) rfl) (pv 1) pe_int (fun _ _ => rfl)) (pa_cons (pe_ix (ixtK (K := K) rfl) (pv 1) pe_int (fun _ _ => rfl)) pa_nil))) (pa_cons (pe_tup (pa_cons (pe_ix (ixtK (K := K) rfl) (pv 1) pe_int (fun _ _ => rfl)) (pa_cons (pe_ix (ixtK (K := K) rfl) (pv 1) pe_int (fun _ _ => rfl)) pa_nil))) (pa_cons (pe_tup (pa_cons (pe_ix (ixtK (K := K) rfl) (pv 1) pe_int (fun _ _ => rfl)) (pa_cons (pe_ix (ixtK (K := K) rfl) (pv 1) pe_int (fun _ _ => rfl)) pa_nil))) pa_nil))))) (pg_tup rfl (pgs_cons (pg_name (i := 2) sc_law.nd rfl (Or.inl rfl)) (pgs_cons (pg_name (i := 3) sc_law.nd rfl (Or.inl rfl)) pgs_nil)))
      (pss_cons (ps_set (i := 4) sc_law.nd rfl (Or.inl rfl) (pe_lst (pa_cons (pe_callTy (listK (K := K) rfl) (by rfl) T.n_list (by decide +kernel) (pa_cons (pv 2) pa_nil)) (pa_cons (pe_callTy (listK (K := K) rfl) (by rfl) T.n_list (by decide +kernel) (pa_cons (pv 3) pa_nil)) pa_nil))))
      (pss_one (ps_for PassesOwn.never rfl (pi_range1 rfl T.n_range (pa_cons pe_int pa_nil)) (pg_name (i := 5) sc_law.nd rfl (Or.inl rfl))
        (pss_cons (ps_set (i := 6) sc_law.nd rfl (Or.inl rfl) (pe_call (ok_way_down T) (hr.mono (by decide)) (by rfl) T.g_way_down T.F_way_down.kp T.b_way_down .nil pass0 (pa_cons (pe_ix (ixlK (K := K) rfl) (pv 4) pe_int (fun _ _ => rfl)) (pa_cons (pe_ix (ixlK (K := K) rfl) (pv 4) pe_int (fun _ _ => rfl)) pa_nil))))
        (pss_cons (ps_if (PW.pt (pw_or (pt_cmpR (neK (K := K) rfl hr.units) (pv 4) (pe_lst (pa_cons (pv 2) (pa_cons (pv 3) pa_nil))) (nomark _)) (pw_or1 (pt_cmpR op_ne (pe_cmpR op_isN (pv 6) pe_non (nomark _)) (pe_cmpR op_isBl (pe_call (ok_lies_above T) (hr.mono (by decide)) (by rfl) T.g_lies_above T.F_lies_above.kp T.b_lies_above .nil (E := E0) passL (pa_cons (pv 2) (pa_cons (pv 3) pa_nil))) pe_bl (nomark _)) (nomark _)))))
          (pss_one (ps_ret pe_bl))
          pss_nil)
        (pss_one (ps_if (PW.pt (pw_or (PW.pt (pw_and (pt_cmpR op_isN (pv 6) pe_non (nomark _)) (pw_and1 (pt_not (pt_val (pe_call (ok_law_lacks T) (hr.mono (by decide)) (by rfl) T.g_law_lacks T.F_law_lacks.kp T.b_law_lacks .nil pass0 (pa_cons (pv 2) (pa_cons (pv 3) pa_nil)))))))) (pw_or1 (PW.pt (pw_and (pt_cmpR op_notN (pv 6) pe_non (nomark _)) (pw_and1 (pt_not (pt_val (pe_call (ok_law_is_way T) (hr.mono (by decide)) (by rfl) T.g_law_is_way T.F_law_is_way.kp T.b_law_is_way .nil pass0 (pa_cons (pv 6) (pa_cons (pv 2) (pa_cons (pv 3) pa_nil))))))))))))
          (pss_one (ps_ret pe_bl))
          pss_nil))))))))
    (pss_one (ps_ret pe_bl))))), ?_⟩
    refine q_asgP (evP_pair (ea_cons (ev_var rfl) ea_nil) hS hlen) fun v H1 e1 hv => ?_
    obtain ⟨p1, p2, t, xs0, ys0, rfl, n1, n2, nt, h1, h2, ht, ix0, iy0, he0⟩ := hv
    have mono : ∀ {zs : List Int} (v : V) (H1 H2 : Hp), Ex H1 H2 → (∃ (p : Addr) (r : List Int), v = .ref p ∧ Ll H1 p r ∧ ToP 30 zs r) → ∃ (p : Addr) (r : List Int), v = .ref p ∧ Ll H2 p r ∧ ToP 30 zs r := fun v H1 H2 e ⟨p, r, h1, h2, h3⟩ => ⟨p, r, h1, e _ _ h2, h3⟩
    refine q_asgP (ep_tup (eap_consP (evP_to (ea_cons (ev_ixT (n := 0) (ev_var rfl) ev_c ht rfl) (ea_cons ev_c ea_nil)) h1 ix0 (by decide) (by decide)) mono (eap_consP (evP_to (ea_cons (ev_ixT (n := 1) (ev_var rfl) ev_c ht rfl) (ea_cons ev_c ea_nil)) h2 iy0 (by decide) (by decide)) mono eap_nil)) (mono_consP mono (mono_consP mono mono_nil)) (fun vs H' hv => by
      obtain ⟨_, _, rfl, _, _, _, rfl, _, rfl⟩ := hv
      show 2 ≤ 100000
      decide)) fun v H2 e2 hv => ?_
    obtain ⟨t2, vs, rfl, _, ht2, _, us, rfl, ⟨o1, xs, rfl, g1, ix, sx⟩, _, us2, rfl, ⟨o2, ys, rfl, g2, iy, sy⟩, rfl⟩ := hv
    have he : xs.sum = ys.sum := by rw [sx, sy, he0]
    have x30 : xs.sum ≤ 30 := by
      rw [sx]
      split <;> omega
    have ea0 : ∀ {H'}, Ex H2 H' → Ev (tOp (rIxT K) (tVar 1) (tC (.int 0))) [some (V.ref a), some (.ref t2), none, none, none, none, none] H' (.ref o1) := fun e => ev_ixT (n := 0) (ev_var rfl) ev_c (e _ _ ht2) rfl
    have ea1 : ∀ {H'}, Ex H2 H' → Ev (tOp (rIxT K) (tVar 1) (tC (.int 1))) [some (V.ref a), some (.ref t2), none, none, none, none, none] H' (.ref o2) := fun e => ev_ixT (n := 1) (ev_var rfl) ev_c (e _ _ ht2) rfl
    refine q_forLP (ep_lst (eap_consU (eu_tup (ea_cons (ea0 (Ex.refl _)) (ea_cons (ea1 (Ex.refl _)) ea_nil)) (by show 2 ≤ 100000; decide)) (eap_consU (eu_tup (ea_cons (ea1 (Ex.refl _)) (ea_cons (ea0 (Ex.refl _)) ea_nil)) (by show 2 ≤ 100000; decide)) (eap_consU (eu_tup (ea_cons (ea0 (Ex.refl _)) (ea_cons (ea0 (Ex.refl _)) ea_nil)) (by show 2 ≤ 100000; decide)) eap_nil))) (mono_consU (mono_consU (mono_consU mono_nil))) (fun vs H' hv => by
      obtain ⟨_, _, rfl, _, _, _, _, rfl, _, _, _, _, rfl, _, _, rfl⟩ := hv
      show 3 ≤ 100000
      decide)) fun v H3 e3 hv => ?_
    obtain ⟨l, vs, rfl, _, hl, u1, us, rfl, _, hu1, u2, us2, rfl, _, hu2, u3, us3, rfl, _, hu3, rfl⟩ := hv
    have k1 : Ll H3 o1 xs := e3 _ _ g1
    have k2 : Ll H3 o2 ys := e3 _ _ g2
    refine ⟨l, _, fun i σ' H' => ∃ y2 y3 y4 y5 y6 : Option V, σ' = [some (.ref a), some (.ref t2), y2, y3, y4, y5, y6] ∧ Ex H3 H', rfl, hl, ⟨none, none, none, none, none, rfl, Ex.refl H3⟩, fun i σ' H' _ hP => ?_, fun i x σ' H' hx hP => ?_, fun σ' H' hP => ?_⟩
    · obtain ⟨_, _, _, _, _, _, eH⟩ := hP
      exact sq_of (eH _ _ hl)
    · obtain ⟨y2, y3, y4, y5, y6, rfl, eH⟩ := hP
      have hi : i < 3 := lt_of_get hx
      have pair : ∃ (u b c : Addr) (us ws : List Int), x = .ref u ∧ H3 u = some (.tup [.ref b, .ref c]) ∧ Ll H3 b us ∧ Ll H3 c ws ∧ IsP us ∧ IsP ws ∧ us.sum = ws.sum ∧ us.sum ≤ 30 := by
        have i3 : i = 0 ∨ i = 1 ∨ i = 2 := by omega
        rcases i3 with rfl | rfl | rfl
        · cases hx
          exact ⟨u1, o1, o2, xs, ys, rfl, hu1, k1, k2, ix, iy, he, x30⟩
        · cases hx
          exact ⟨u2, o2, o1, ys, xs, rfl, hu2, k2, k1, iy, ix, he.symm, by omega⟩
        · cases hx
          exact ⟨u3, o1, o1, xs, xs, rfl, hu3, k1, k1, ix, ix, rfl, x30⟩
      obtain ⟨u, b, c, us, ws, rfl, hu, hb, hc, iu, iw, hs, h30⟩ := pair
      refine g2_at (eH _ _ hu) ?_
      have hb' := eH _ _ hb
      have hc' := eH _ _ hc
      refine q_asgP (ep_lst (eap_consL (el_cb (ea_cons (ev_var rfl) ea_nil) (rcl_list (Ll.sq hb'))) (eap_consL (el_cb (ea_cons (ev_var rfl) ea_nil) (rcl_list (Ll.sq hc'))) eap_nil)) (mono_consL (mono_consL mono_nil)) (fun vs H' hv => by
        obtain ⟨_, _, rfl, _, _, _, _, rfl, _, _, rfl⟩ := hv
        show 2 ≤ 100000
        decide)) fun v H4 e4 hv => ?_
      obtain ⟨h, vs, rfl, _, hh, q1, us1, rfl, _, m1, q2, us2, rfl, _, m2, rfl⟩ := hv
      refine s_forR1 (n := 2) (ea_cons ev_c ea_nil) ⟨by decide, by decide⟩ (fun i σ' H' => ∃ y5 y6 : Option V, σ' = [some (.ref a), some (.ref t2), some (.ref b), some (.ref c), some (.ref h), y5, y6] ∧ Ex H4 H') (fun H5 e5 => ⟨y5, y6, rfl, e5⟩) (fun j σ5 H5 hj hP => ?_) (fun σ5 H5 hP => ?_)
      · obtain ⟨z5, z6, rfl, e5⟩ := hP
        have hh5 := e5 _ _ hh
        have m15 : Ll H5 q1 us := e5 _ _ m1
        have m25 : Ll H5 q2 ws := e5 _ _ m2
        have b5 := (e4.trans e5) _ _ hb'
        have c5 := (e4.trans e5) _ _ hc'
        have args : EvA (tCons (tOp (rIxL K) (tVar 4) (tC (.int 0))) (tCons (tOp (rIxL K) (tVar 4) (tC (.int 1))) tNil)) [some (.ref a), some (.ref t2), some (.ref b), some (.ref c), some (.ref h), some (V.int (j : Int)), z6] H5 [.ref q1, .ref q2] :=
          ea_cons (ev_op (ev_var rfl) ev_c (rv_ixL (sq_of hh5) rfl)) (ea_cons (ev_op (ev_var rfl) ev_c (rv_ixL (sq_of hh5) rfl)) ea_nil)
        have same : ∀ {H6 : Hp} {w6 : Option V}, Ex H5 H6 → EvT (tTest (tOp (rNeD K) (tVar 4) (tLst (tCons (tVar 2) (tCons (tVar 3) tNil))))) [some (.ref a), some (.ref t2), some (.ref b), some (.ref c), some (.ref h), some (V.int (j : Int)), w6] H6 false := fun {H6 w6} e6 =>
          et_is (et_test (ev_opL (ev_var rfl) (el_lst (ea_cons (ev_var rfl) (ea_cons (ev_var rfl) ea_nil)) (by show 2 ≤ 100000; decide)) fun o H7 ho e7 =>
            rv_neLL (xss := [us, ws]) (yss := [us, ws]) (sq_of ((e6.trans e7) _ _ hh5)) (.cons ((e6.trans e7) _ _ m15) (.cons ((e6.trans e7) _ _ m25) .nil)) (sq_of ho) (.cons ((e6.trans e7) _ _ b5) (.cons ((e6.trans e7) _ _ c5) .nil)))) (by simp)
        cases hn : decide (lackV us ws = .non) with
        | false =>
          have hn' : lackV us ws ≠ .non := of_decide_eq_false hn
          refine q_asg (ev_call args (spv_wayN m15 m25 iu iw hs h30 hn')) fun H6 e6 => ?_
          refine q_when (b := false) (et_is (et_or (same e6) fun _ => et_test (ev_ne (ev_isN (ev_var rfl)) (ev_isB (ev_call (ea_cons (ev_var rfl) (ea_cons (ev_var rfl) ea_nil)) (spv_above (e6 _ _ b5) (e6 _ _ c5) iu iw hs)) ev_c) rfl)) (by rw [hn]; rfl)) (fun z => by cases z) (fun _ H7 e7 => ?_)
          refine s_when (b := false) (et_is (et_or (et_and (et_test (ev_isN (ev_var rfl))) fun _ => et_not (et_B (ev_call (ea_cons (ev_var rfl) (ea_cons (ev_var rfl) ea_nil)) (spv_lacks ((e6.trans e7) _ _ b5) ((e6.trans e7) _ _ c5) iu iw hs hn')))) fun _ => et_and (b := false) (et_test (ev_notN (ev_var rfl))) fun z => by cases z) (by rfl)) (fun z => by cases z) (fun _ H8 e8 => ?_)
          exact ⟨_, _, rfl, e5.trans ((e6.trans e7).trans e8)⟩
        | true =>
          have hn' : lackV us ws = .non := of_decide_eq_true hn
          refine q_asgP (evP_way args m15 m25 iu iw hs h30 hn') fun v H6 e6 hv => ?_
          obtain ⟨p, zs, xss, rfl, hp, hL, hnew, hnd, wy, hlw⟩ := hv
          refine q_when (b := false) (et_is (et_or (same e6) fun _ => et_test (ev_ne (ev_isN (ev_var rfl)) (ev_isB (ev_call (ea_cons (ev_var rfl) (ea_cons (ev_var rfl) ea_nil)) (spv_above (e6 _ _ b5) (e6 _ _ c5) iu iw hs)) ev_c) rfl)) (by rw [hn]; rfl)) (fun z => by cases z) (fun _ H7 e7 => ?_)
          refine s_when0 (H0 := H5) (et0_orF (et_is (et_and (b := false) (et_test (ev_isN (ev_var rfl))) fun z => by cases z) rfl) (et0_andT (et_is (et_test (ev_notN (ev_var rfl))) rfl) (et0_not (b := true) (et0_B (ev0_call (ea_cons (ev_var rfl) (ea_cons (ev_var rfl) (ea_cons (ev_var rfl) ea_nil))) fun H8 e8 Q8 q8 E8 => ?_))))) fun H8 e8 => ?_
          · exact ⟨p, b, c, zs, xss, us, ws, H5, rfl, (e7.trans e8) _ _ hp, ((e6.trans e7).trans e8) _ _ b5, ((e6.trans e7).trans e8) _ _ c5, iu, hL.mono (e7.trans e8), wy, hlw, hnd, (e6.trans e7).trans e8, hnew, q8⟩
          · exact ⟨_, _, rfl, e5.trans e8⟩
      · obtain ⟨z5, z6, rfl, e5⟩ := hP
        exact ⟨_, _, _, _, _, rfl, eH.trans (e4.trans e5)⟩
    · obtain ⟨y2, y3, y4, y5, y6, rfl, eH⟩ := hP
      exact s_ret ev_c fun H4 e4 => q H4
end
theorem all_mk {l : PySem.W.OpenLaw} {w : World} {K : PySem.W.Frag} {h : Heap} {mg : Str → Option Value} {fa : Addr} (X : K.In h) (G : h.Ns mainGlobals mg) (hfa : mg "law" = some (.ref fa))
    {f1 : Addr} {od1 an1 : Option Addr} {sl1 : Array (Option Value)} {oc1 kV1 dc1 pm1 cd1 ct1 : Value}
    {f2 : Addr} {od2 an2 : Option Addr} {sl2 : Array (Option Value)} {oc2 kV2 dc2 pm2 cd2 ct2 : Value}
    {f3 : Addr} {od3 an3 : Option Addr} {sl3 : Array (Option Value)} {oc3 kV3 dc3 pm3 cd3 ct3 : Value}
    {f4 : Addr} {od4 an4 : Option Addr} {sl4 : Array (Option Value)} {oc4 kV4 dc4 pm4 cd4 ct4 : Value}
    {f5 : Addr} {od5 an5 : Option Addr} {sl5 : Array (Option Value)} {oc5 kV5 dc5 pm5 cd5 ct5 : Value}
    {f6 : Addr} {od6 an6 : Option Addr} {sl6 : Array (Option Value)} {oc6 kV6 dc6 pm6 cd6 ct6 : Value}
    {f7 : Addr} {od7 an7 : Option Addr} {sl7 : Array (Option Value)} {oc7 kV7 dc7 pm7 cd7 ct7 : Value}
    {f8 : Addr} {od8 an8 : Option Addr} {sl8 : Array (Option Value)} {oc8 kV8 dc8 pm8 cd8 ct8 : Value}
    {f9 : Addr} {od9 an9 : Option Addr} {sl9 : Array (Option Value)} {oc9 kV9 dc9 pm9 cd9 ct9 : Value}
    {f10 : Addr} {od10 an10 : Option Addr} {sl10 : Array (Option Value)} {oc10 kV10 dc10 pm10 cd10 ct10 : Value}
    {f11 : Addr} {od11 an11 : Option Addr} {sl11 : Array (Option Value)} {oc11 kV11 dc11 pm11 cd11 ct11 : Value}
    {f12 : Addr} {od12 an12 : Option Addr} {sl12 : Array (Option Value)} {oc12 kV12 dc12 pm12 cd12 ct12 : Value}
    {f13 : Addr} {od13 an13 : Option Addr} {sl13 : Array (Option Value)} {oc13 kV13 dc13 pm13 cd13 ct13 : Value}
    {f14 : Addr} {od14 an14 : Option Addr} {sl14 : Array (Option Value)} {oc14 kV14 dc14 pm14 cd14 ct14 : Value}
    {f15 : Addr} {od15 an15 : Option Addr} {sl15 : Array (Option Value)} {oc15 kV15 dc15 pm15 cd15 ct15 : Value}
    {f16 : Addr} {od16 an16 : Option Addr} {sl16 : Array (Option Value)} {oc16 kV16 dc16 pm16 cd16 ct16 : Value}
    {f17 : Addr} {od17 an17 : Option Addr} {sl17 : Array (Option Value)} {oc17 kV17 dc17 pm17 cd17 ct17 : Value}
    {f18 : Addr} {od18 an18 : Option Addr} {sl18 : Array (Option Value)} {oc18 kV18 dc18 pm18 cd18 ct18 : Value}
    {f19 : Addr} {od19 an19 : Option Addr} {sl19 : Array (Option Value)} {oc19 kV19 dc19 pm19 cd19 ct19 : Value}
    {f20 : Addr} {od20 an20 : Option Addr} {sl20 : Array (Option Value)} {oc20 kV20 dc20 pm20 cd20 ct20 : Value}
    {f21 : Addr} {od21 an21 : Option Addr} {sl21 : Array (Option Value)} {oc21 kV21 dc21 pm21 cd21 ct21 : Value}
    {t_GREATEST_WHOLE : Tok}
    {C_NoFit : Addr}
    (a1 : PySem.W.nsIn K mainGlobals "is_number" = some (some (.ref f1)))
    (l1 : K.lookup f1 = some ⟨oc1, od1, .func (PySem.W.fnOf "is_number" "is_number" (defArgs s_is_number) (defBody s_is_number) (defScope s_is_number) .none kV1 dc1 pm1 an1 cd1 ct1), sl1⟩)
    (c1 : PySem.W.codeIn K cd1 "is_number" = true) (k1 : PySem.W.keepIn K (.ref f1) = true)
    (a2 : PySem.W.nsIn K mainGlobals "is_parting" = some (some (.ref f2)))
    (l2 : K.lookup f2 = some ⟨oc2, od2, .func (PySem.W.fnOf "is_parting" "is_parting" (defArgs s_is_parting) (defBody s_is_parting) (defScope s_is_parting) .none kV2 dc2 pm2 an2 cd2 ct2), sl2⟩)
    (c2 : PySem.W.codeIn K cd2 "is_parting" = true) (k2 : PySem.W.keepIn K (.ref f2) = true)
    (a3 : PySem.W.nsIn K mainGlobals "check_parting" = some (some (.ref f3)))
    (l3 : K.lookup f3 = some ⟨oc3, od3, .func (PySem.W.fnOf "check_parting" "check_parting" (defArgs s_check_parting) (defBody s_check_parting) (defScope s_check_parting) .none kV3 dc3 pm3 an3 cd3 ct3), sl3⟩)
    (c3 : PySem.W.codeIn K cd3 "check_parting" = true) (k3 : PySem.W.keepIn K (.ref f3) = true)
    (a4 : PySem.W.nsIn K mainGlobals "lies_above" = some (some (.ref f4)))
    (l4 : K.lookup f4 = some ⟨oc4, od4, .func (PySem.W.fnOf "lies_above" "lies_above" (defArgs s_lies_above) (defBody s_lies_above) (defScope s_lies_above) .none kV4 dc4 pm4 an4 cd4 ct4), sl4⟩)
    (c4 : PySem.W.codeIn K cd4 "lies_above" = true) (k4 : PySem.W.keepIn K (.ref f4) = true)
    (a5 : PySem.W.nsIn K mainGlobals "lacking_count" = some (some (.ref f5)))
    (l5 : K.lookup f5 = some ⟨oc5, od5, .func (PySem.W.fnOf "lacking_count" "lacking_count" (defArgs s_lacking_count) (defBody s_lacking_count) (defScope s_lacking_count) .none kV5 dc5 pm5 an5 cd5 ct5), sl5⟩)
    (c5 : PySem.W.codeIn K cd5 "lacking_count" = true) (k5 : PySem.W.keepIn K (.ref f5) = true)
    (a6 : PySem.W.nsIn K mainGlobals "let_down" = some (some (.ref f6)))
    (l6 : K.lookup f6 = some ⟨oc6, od6, .func (PySem.W.fnOf "let_down" "let_down" (defArgs s_let_down) (defBody s_let_down) (defScope s_let_down) .none kV6 dc6 pm6 an6 cd6 ct6), sl6⟩)
    (c6 : PySem.W.codeIn K cd6 "let_down" = true) (k6 : PySem.W.keepIn K (.ref f6) = true)
    (a7 : PySem.W.nsIn K mainGlobals "way_down" = some (some (.ref f7)))
    (l7 : K.lookup f7 = some ⟨oc7, od7, .func (PySem.W.fnOf "way_down" "way_down" (defArgs s_way_down) (defBody s_way_down) (defScope s_way_down) .none kV7 dc7 pm7 an7 cd7 ct7), sl7⟩)
    (c7 : PySem.W.codeIn K cd7 "way_down" = true) (k7 : PySem.W.keepIn K (.ref f7) = true)
    (a8 : PySem.W.nsIn K mainGlobals "_check_pair" = some (some (.ref f8)))
    (l8 : K.lookup f8 = some ⟨oc8, od8, .func (PySem.W.fnOf "_check_pair" "_check_pair" (defArgs s_check_pair) (defBody s_check_pair) (defScope s_check_pair) .none kV8 dc8 pm8 an8 cd8 ct8), sl8⟩)
    (c8 : PySem.W.codeIn K cd8 "_check_pair" = true) (k8 : PySem.W.keepIn K (.ref f8) = true)
    (a9 : PySem.W.nsIn K mainGlobals "_gaps" = some (some (.ref f9)))
    (l9 : K.lookup f9 = some ⟨oc9, od9, .func (PySem.W.fnOf "_gaps" "_gaps" (defArgs s_gaps) (defBody s_gaps) (defScope s_gaps) .none kV9 dc9 pm9 an9 cd9 ct9), sl9⟩)
    (c9 : PySem.W.codeIn K cd9 "_gaps" = true) (k9 : PySem.W.keepIn K (.ref f9) = true)
    (a10 : PySem.W.nsIn K mainGlobals "_are_places" = some (some (.ref f10)))
    (l10 : K.lookup f10 = some ⟨oc10, od10, .func (PySem.W.fnOf "_are_places" "_are_places" (defArgs s_are_places) (defBody s_are_places) (defScope s_are_places) .none kV10 dc10 pm10 an10 cd10 ct10), sl10⟩)
    (c10 : PySem.W.codeIn K cd10 "_are_places" = true) (k10 : PySem.W.keepIn K (.ref f10) = true)
    (a11 : PySem.W.nsIn K mainGlobals "_nearer" = some (some (.ref f11)))
    (l11 : K.lookup f11 = some ⟨oc11, od11, .func (PySem.W.fnOf "_nearer" "_nearer" (defArgs s_nearer) (defBody s_nearer) (defScope s_nearer) .none kV11 dc11 pm11 an11 cd11 ct11), sl11⟩)
    (c11 : PySem.W.codeIn K cd11 "_nearer" = true) (k11 : PySem.W.keepIn K (.ref f11) = true)
    (a12 : PySem.W.nsIn K mainGlobals "_law_mixed" = some (some (.ref f12)))
    (l12 : K.lookup f12 = some ⟨oc12, od12, .func (PySem.W.fnOf "_law_mixed" "_law_mixed" (defArgs s_law_mixed) (defBody s_law_mixed) (defScope s_law_mixed) .none kV12 dc12 pm12 an12 cd12 ct12), sl12⟩)
    (c12 : PySem.W.codeIn K cd12 "_law_mixed" = true) (k12 : PySem.W.keepIn K (.ref f12) = true)
    (a13 : PySem.W.nsIn K mainGlobals "_law_number" = some (some (.ref f13)))
    (l13 : K.lookup f13 = some ⟨oc13, od13, .func (PySem.W.fnOf "_law_number" "_law_number" (defArgs s_law_number) (defBody s_law_number) (defScope s_law_number) .none kV13 dc13 pm13 an13 cd13 ct13), sl13⟩)
    (c13 : PySem.W.codeIn K cd13 "_law_number" = true) (k13 : PySem.W.keepIn K (.ref f13) = true)
    (a14 : PySem.W.nsIn K mainGlobals "_law_parting_by" = some (some (.ref f14)))
    (l14 : K.lookup f14 = some ⟨oc14, od14, .func (PySem.W.fnOf "_law_parting_by" "_law_parting_by" (defArgs s_law_parting_by) (defBody s_law_parting_by) (defScope s_law_parting_by) .none kV14 dc14 pm14 an14 cd14 ct14), sl14⟩)
    (c14 : PySem.W.codeIn K cd14 "_law_parting_by" = true) (k14 : PySem.W.keepIn K (.ref f14) = true)
    (a15 : PySem.W.nsIn K mainGlobals "_law_pair_by" = some (some (.ref f15)))
    (l15 : K.lookup f15 = some ⟨oc15, od15, .func (PySem.W.fnOf "_law_pair_by" "_law_pair_by" (defArgs s_law_pair_by) (defBody s_law_pair_by) (defScope s_law_pair_by) .none kV15 dc15 pm15 an15 cd15 ct15), sl15⟩)
    (c15 : PySem.W.codeIn K cd15 "_law_pair_by" = true) (k15 : PySem.W.keepIn K (.ref f15) = true)
    (a16 : PySem.W.nsIn K mainGlobals "_law_is_stair" = some (some (.ref f16)))
    (l16 : K.lookup f16 = some ⟨oc16, od16, .func (PySem.W.fnOf "_law_is_stair" "_law_is_stair" (defArgs s_law_is_stair) (defBody s_law_is_stair) (defScope s_law_is_stair) .none kV16 dc16 pm16 an16 cd16 ct16), sl16⟩)
    (c16 : PySem.W.codeIn K cd16 "_law_is_stair" = true) (k16 : PySem.W.keepIn K (.ref f16) = true)
    (a17 : PySem.W.nsIn K mainGlobals "_law_step_right" = some (some (.ref f17)))
    (l17 : K.lookup f17 = some ⟨oc17, od17, .func (PySem.W.fnOf "_law_step_right" "_law_step_right" (defArgs s_law_step_right) (defBody s_law_step_right) (defScope s_law_step_right) .none kV17 dc17 pm17 an17 cd17 ct17), sl17⟩)
    (c17 : PySem.W.codeIn K cd17 "_law_step_right" = true) (k17 : PySem.W.keepIn K (.ref f17) = true)
    (a18 : PySem.W.nsIn K mainGlobals "_law_is_way" = some (some (.ref f18)))
    (l18 : K.lookup f18 = some ⟨oc18, od18, .func (PySem.W.fnOf "_law_is_way" "_law_is_way" (defArgs s_law_is_way) (defBody s_law_is_way) (defScope s_law_is_way) .none kV18 dc18 pm18 an18 cd18 ct18), sl18⟩)
    (c18 : PySem.W.codeIn K cd18 "_law_is_way" = true) (k18 : PySem.W.keepIn K (.ref f18) = true)
    (a19 : PySem.W.nsIn K mainGlobals "_law_to" = some (some (.ref f19)))
    (l19 : K.lookup f19 = some ⟨oc19, od19, .func (PySem.W.fnOf "_law_to" "_law_to" (defArgs s_law_to) (defBody s_law_to) (defScope s_law_to) .none kV19 dc19 pm19 an19 cd19 ct19), sl19⟩)
    (c19 : PySem.W.codeIn K cd19 "_law_to" = true) (k19 : PySem.W.keepIn K (.ref f19) = true)
    (a20 : PySem.W.nsIn K mainGlobals "_law_lacks" = some (some (.ref f20)))
    (l20 : K.lookup f20 = some ⟨oc20, od20, .func (PySem.W.fnOf "_law_lacks" "_law_lacks" (defArgs s_law_lacks) (defBody s_law_lacks) (defScope s_law_lacks) .none kV20 dc20 pm20 an20 cd20 ct20), sl20⟩)
    (c20 : PySem.W.codeIn K cd20 "_law_lacks" = true) (k20 : PySem.W.keepIn K (.ref f20) = true)
    (a21 : PySem.W.nsIn K mainGlobals "law" = some (some (.ref f21)))
    (l21 : K.lookup f21 = some ⟨oc21, od21, .func (PySem.W.fnOf "law" "law" (defArgs s_law) (defBody s_law) (defScope s_law) .none kV21 dc21 pm21 an21 cd21 ct21), sl21⟩)
    (c21 : PySem.W.codeIn K cd21 "law" = true) (k21 : PySem.W.keepIn K (.ref f21) = true)
    (z_abs : PySem.W.nsIn K mainGlobals "abs" = some none)
    (z_all : PySem.W.nsIn K mainGlobals "all" = some none)
    (z_bool : PySem.W.nsIn K mainGlobals "bool" = some none)
    (z_enumerate : PySem.W.nsIn K mainGlobals "enumerate" = some none)
    (z_int : PySem.W.nsIn K mainGlobals "int" = some none)
    (z_isinstance : PySem.W.nsIn K mainGlobals "isinstance" = some none)
    (z_len : PySem.W.nsIn K mainGlobals "len" = some none)
    (z_list : PySem.W.nsIn K mainGlobals "list" = some none)
    (z_max : PySem.W.nsIn K mainGlobals "max" = some none)
    (z_min : PySem.W.nsIn K mainGlobals "min" = some none)
    (z_range : PySem.W.nsIn K mainGlobals "range" = some none)
    (z_sorted : PySem.W.nsIn K mainGlobals "sorted" = some none)
    (z_sum : PySem.W.nsIn K mainGlobals "sum" = some none)
    (y_zip_longest : PySem.W.nsIn K mainGlobals "zip_longest" = some (some (.type "itertools.zip_longest")))
    (v_GREATEST_WHOLE : PySem.W.nsIn K mainGlobals "GREATEST_WHOLE" = some (some (.int 200 t_GREATEST_WHOLE)))
    (g_NoFit : PySem.W.nsIn K mainGlobals "NoFit" = some (some (.ref C_NoFit)))
    (x_NoFit : PySem.W.excIn K C_NoFit [.type "ValueError", .type "Exception", .type "BaseException", .type "object"] "ValueError.__new__" = true)
    (k_NoFit : PySem.W.keepIn K (.ref C_NoFit) = true)
    (s_NoFit : PySem.W.subIn K (.ref C_NoFit) (.type "BaseException") = some true)
    (t_NoFit : PySem.W.typeIn K (.ref C_NoFit) = some (.type "type"))
    (ehg_NoFit : PySem.W.findIn K (.ref C_NoFit) "__getattribute__" = some (some (.builtin "BaseException.__getattribute__")))
    (ehk_NoFit : PySem.W.findIn K (.ref C_NoFit) "__getattr__" = some none)
    (ehd_NoFit : PySem.W.hasDictIn K C_NoFit = true)
    (eha_NoFit : PySem.W.findIn K (.ref C_NoFit) "__class__" = some (some (.builtin "object.__class__")))
    (ehm_NoFit : PySem.W.mroIn K C_NoFit (.type "object") = some true)
    (e_hn : PySem.W.specialIn K (.builtin "object.__class__") "__get__" = some (some (.builtin "getset_descriptor.__get__")))
    (e_ht : PySem.W.takesIn K (.builtin "object.__class__") = some true)
    : ∃ fd : FuncData, (∀ (s : Shared) (v : Value), BindsTo s fd ⟨[v], []⟩ [("_law_script", v)]) ∧ ∀ base : Heap, K.In base → base.Ns mainGlobals mg → FnOk l.prog w K mg base CX0 7 fa fd ["_law_script"] (sp_law K) := by
  have e := hfa.symm.trans (PySem.W.mg_of X G a21)
  cases e
  have F1 := fun_mk (st := s_is_number) l1 c1 k1
  have b1 := F1.binds (ps := ["thing"]) fun _ _ _ _ _ _ us hl => match us, hl with | [_], _ => rfl
  have F2 := fun_mk (st := s_is_parting) l2 c2 k2
  have b2 := F2.binds (ps := ["thing"]) fun _ _ _ _ _ _ us hl => match us, hl with | [_], _ => rfl
  have F3 := fun_mk (st := s_check_parting) l3 c3 k3
  have b3 := F3.binds (ps := ["thing"]) fun _ _ _ _ _ _ us hl => match us, hl with | [_], _ => rfl
  have F4 := fun_mk (st := s_lies_above) l4 c4 k4
  have b4 := F4.binds (ps := ["one", "other"]) fun _ _ _ _ _ _ us hl => match us, hl with | [_, _], _ => rfl
  have F5 := fun_mk (st := s_lacking_count) l5 c5 k5
  have b5 := F5.binds (ps := ["one", "other"]) fun _ _ _ _ _ _ us hl => match us, hl with | [_, _], _ => rfl
  have F6 := fun_mk (st := s_let_down) l6 c6 k6
  have b6 := F6.binds (ps := ["parting", "first", "second"]) fun _ _ _ _ _ _ us hl => match us, hl with | [_, _, _], _ => rfl
  have F7 := fun_mk (st := s_way_down) l7 c7 k7
  have b7 := F7.binds (ps := ["one", "other"]) fun _ _ _ _ _ _ us hl => match us, hl with | [_, _], _ => rfl
  have F8 := fun_mk (st := s_check_pair) l8 c8 k8
  have b8 := F8.binds (ps := ["one", "other"]) fun _ _ _ _ _ _ us hl => match us, hl with | [_, _], _ => rfl
  have F9 := fun_mk (st := s_gaps) l9 c9 k9
  have b9 := F9.binds (ps := ["one", "other"]) fun _ _ _ _ _ _ us hl => match us, hl with | [_, _], _ => rfl
  have F10 := fun_mk (st := s_are_places) l10 c10 k10
  have b10 := F10.binds (ps := ["parting", "first", "second"]) fun _ _ _ _ _ _ us hl => match us, hl with | [_, _, _], _ => rfl
  have F11 := fun_mk (st := s_nearer) l11 c11 k11
  have b11 := F11.binds (ps := ["parting", "goal"]) fun _ _ _ _ _ _ us hl => match us, hl with | [_, _], _ => rfl
  have F12 := fun_mk (st := s_law_mixed) l12 c12 k12
  have b12 := F12.binds (ps := ["_law_number_here", "_law_k"]) fun _ _ _ _ _ _ us hl => match us, hl with | [_, _], _ => rfl
  have F13 := fun_mk (st := s_law_number) l13 c13 k13
  have b13 := F13.binds (ps := ["_law_script", "_law_k"]) fun _ _ _ _ _ _ us hl => match us, hl with | [_, _], _ => rfl
  have F14 := fun_mk (st := s_law_parting_by) l14 c14 k14
  have b14 := F14.binds (ps := ["_law_script", "_law_first"]) fun _ _ _ _ _ _ us hl => match us, hl with | [_, _], _ => rfl
  have F15 := fun_mk (st := s_law_pair_by) l15 c15 k15
  have b15 := F15.binds (ps := ["_law_script"]) fun _ _ _ _ _ _ us hl => match us, hl with | [_], _ => rfl
  have F16 := fun_mk (st := s_law_is_stair) l16 c16 k16
  have b16 := F16.binds (ps := ["_law_thing"]) fun _ _ _ _ _ _ us hl => match us, hl with | [_], _ => rfl
  have F17 := fun_mk (st := s_law_step_right) l17 c17 k17
  have b17 := F17.binds (ps := ["_law_ahead", "_law_after"]) fun _ _ _ _ _ _ us hl => match us, hl with | [_, _], _ => rfl
  have F18 := fun_mk (st := s_law_is_way) l18 c18 k18
  have b18 := F18.binds (ps := ["_law_found", "_law_one", "_law_other"]) fun _ _ _ _ _ _ us hl => match us, hl with | [_, _, _], _ => rfl
  have F19 := fun_mk (st := s_law_to) l19 c19 k19
  have b19 := F19.binds (ps := ["_law_parting", "_law_most"]) fun _ _ _ _ _ _ us hl => match us, hl with | [_, _], _ => rfl
  have F20 := fun_mk (st := s_law_lacks) l20 c20 k20
  have b20 := F20.binds (ps := ["_law_one", "_law_other"]) fun _ _ _ _ _ _ us hl => match us, hl with | [_, _], _ => rfl
  have F21 := fun_mk (st := s_law) l21 c21 k21
  have b21 := F21.binds (ps := ["_law_script"]) fun _ _ _ _ _ _ us hl => match us, hl with | [_], _ => rfl
  let T : Tx K mg := { a_is_number := f1, d_is_number := _, F_is_number := F1, b_is_number := b1, g_is_number := PySem.W.mg_of X G a1, a_is_parting := f2, d_is_parting := _, F_is_parting := F2, b_is_parting := b2, g_is_parting := PySem.W.mg_of X G a2, a_check_parting := f3, d_check_parting := _, F_check_parting := F3, b_check_parting := b3, g_check_parting := PySem.W.mg_of X G a3, a_lies_above := f4, d_lies_above := _, F_lies_above := F4, b_lies_above := b4, g_lies_above := PySem.W.mg_of X G a4, a_lacking_count := f5, d_lacking_count := _, F_lacking_count := F5, b_lacking_count := b5, g_lacking_count := PySem.W.mg_of X G a5, a_let_down := f6, d_let_down := _, F_let_down := F6, b_let_down := b6, g_let_down := PySem.W.mg_of X G a6, a_way_down := f7, d_way_down := _, F_way_down := F7, b_way_down := b7, g_way_down := PySem.W.mg_of X G a7, a_check_pair := f8, d_check_pair := _, F_check_pair := F8, b_check_pair := b8, g_check_pair := PySem.W.mg_of X G a8, a_gaps := f9, d_gaps := _, F_gaps := F9, b_gaps := b9, g_gaps := PySem.W.mg_of X G a9, a_are_places := f10, d_are_places := _, F_are_places := F10, b_are_places := b10, g_are_places := PySem.W.mg_of X G a10, a_nearer := f11, d_nearer := _, F_nearer := F11, b_nearer := b11, g_nearer := PySem.W.mg_of X G a11, a_law_mixed := f12, d_law_mixed := _, F_law_mixed := F12, b_law_mixed := b12, g_law_mixed := PySem.W.mg_of X G a12, a_law_number := f13, d_law_number := _, F_law_number := F13, b_law_number := b13, g_law_number := PySem.W.mg_of X G a13, a_law_parting_by := f14, d_law_parting_by := _, F_law_parting_by := F14, b_law_parting_by := b14, g_law_parting_by := PySem.W.mg_of X G a14, a_law_pair_by := f15, d_law_pair_by := _, F_law_pair_by := F15, b_law_pair_by := b15, g_law_pair_by := PySem.W.mg_of X G a15, a_law_is_stair := f16, d_law_is_stair := _, F_law_is_stair := F16, b_law_is_stair := b16, g_law_is_stair := PySem.W.mg_of X G a16, a_law_step_right := f17, d_law_step_right := _, F_law_step_right := F17, b_law_step_right := b17, g_law_step_right := PySem.W.mg_of X G a17, a_law_is_way := f18, d_law_is_way := _, F_law_is_way := F18, b_law_is_way := b18, g_law_is_way := PySem.W.mg_of X G a18, a_law_to := f19, d_law_to := _, F_law_to := F19, b_law_to := b19, g_law_to := PySem.W.mg_of X G a19, a_law_lacks := f20, d_law_lacks := _, F_law_lacks := F20, b_law_lacks := b20, g_law_lacks := PySem.W.mg_of X G a20, a_law := fa, d_law := _, F_law := F21, b_law := b21, g_law := PySem.W.mg_of X G a21, n_abs := PySem.W.mg_none_of X G z_abs, n_all := PySem.W.mg_none_of X G z_all, n_bool := PySem.W.mg_none_of X G z_bool, n_enumerate := PySem.W.mg_none_of X G z_enumerate, n_int := PySem.W.mg_none_of X G z_int, n_isinstance := PySem.W.mg_none_of X G z_isinstance, n_len := PySem.W.mg_none_of X G z_len, n_list := PySem.W.mg_none_of X G z_list, n_max := PySem.W.mg_none_of X G z_max, n_min := PySem.W.mg_none_of X G z_min, n_range := PySem.W.mg_none_of X G z_range, n_sorted := PySem.W.mg_none_of X G z_sorted, n_sum := PySem.W.mg_none_of X G z_sum, g_zip_longest := PySem.W.mg_of X G y_zip_longest, u_GREATEST_WHOLE := _, c_GREATEST_WHOLE := PySem.W.mg_of X G v_GREATEST_WHOLE, r_GREATEST_WHOLE := ⟨_, rfl⟩, C_NoFit := C_NoFit, g_NoFit := PySem.W.mg_of X G g_NoFit, x_NoFit := x_NoFit, k_NoFit := k_NoFit, s_NoFit := s_NoFit, t_NoFit := t_NoFit, e_NoFit := ⟨ehg_NoFit, ehk_NoFit, s_NoFit, ehd_NoFit, eha_NoFit, e_hn, e_ht, ehm_NoFit⟩ }
  exact ⟨PySem.W.fnOf "law" "law" (defArgs s_law) (defBody s_law) (defScope s_law) .none kV21 dc21 pm21 an21 cd21 ct21, fun s v => .of_eq rfl, fun base _ _ => ok_law T⟩
end K5
open PySem PySem.W PyProof.Rows
set_option maxHeartbeats 0 in
theorem PySem.Challenge.cw_stairparts_k05_whole_ways_down_holds : PySem.Challenge.rw_stairparts_k05_whole_ways_down.Holds := by
  w_on; o_law; k_head; (case hw => w_witness2)
  k_fill
  refine L2.walk_of (l := PySem.Challenge.rw_stairparts_k05_whole_ways_down) (n := 63) (k := 7) (x := "_law_script") (CX := fun _ => L2.CX0) (sp := fun w => K5.sp_law _) rfl (by decide) rfl ⟨rfl, by decide, by decide⟩ (fun w h Y => PySem.W.kIn_of Y) ?F (fun _ _ a ns hl _ hS => ⟨a, ns, rfl, hS, hl, fun _ => rfl⟩) (fun _ _ _ _ _ h => h)
  case F =>
    intro w mg fa h KX G hmg
    refine' K5.all_mk KX G hmg ?a1 ?l1 ?c1 ?k1 ?a2 ?l2 ?c2 ?k2 ?a3 ?l3 ?c3 ?k3 ?a4 ?l4 ?c4 ?k4 ?a5 ?l5 ?c5 ?k5 ?a6 ?l6 ?c6 ?k6 ?a7 ?l7 ?c7 ?k7 ?a8 ?l8 ?c8 ?k8 ?a9 ?l9 ?c9 ?k9 ?a10 ?l10 ?c10 ?k10 ?a11 ?l11 ?c11 ?k11 ?a12 ?l12 ?c12 ?k12 ?a13 ?l13 ?c13 ?k13 ?a14 ?l14 ?c14 ?k14 ?a15 ?l15 ?c15 ?k15 ?a16 ?l16 ?c16 ?k16 ?a17 ?l17 ?c17 ?k17 ?a18 ?l18 ?c18 ?k18 ?a19 ?l19 ?c19 ?k19 ?a20 ?l20 ?c20 ?k20 ?a21 ?l21 ?c21 ?k21 ?z_abs ?z_all ?z_bool ?z_enumerate ?z_int ?z_isinstance ?z_len ?z_list ?z_max ?z_min ?z_range ?z_sorted ?z_sum ?y_zip_longest ?v_GREATEST_WHOLE ?g_NoFit ?x_NoFit ?k_NoFit ?s_NoFit ?t_NoFit ?ehg_NoFit ?ehk_NoFit ?ehd_NoFit ?eha_NoFit ?ehm_NoFit ?e_hn ?e_ht
    (case a1 => k_is); (case l1 => k_is); (case c1 => k_is); (case k1 => k_is)
    (case a2 => k_is); (case l2 => k_is); (case c2 => k_is); (case k2 => k_is)
    (case a3 => k_is); (case l3 => k_is); (case c3 => k_is); (case k3 => k_is)
    (case a4 => k_is); (case l4 => k_is); (case c4 => k_is); (case k4 => k_is)
    (case a5 => k_is); (case l5 => k_is); (case c5 => k_is); (case k5 => k_is)
    (case a6 => k_is); (case l6 => k_is); (case c6 => k_is); (case k6 => k_is)
    (case a7 => k_is); (case l7 => k_is); (case c7 => k_is); (case k7 => k_is)
    (case a8 => k_is); (case l8 => k_is); (case c8 => k_is); (case k8 => k_is)
    (case a9 => k_is); (case l9 => k_is); (case c9 => k_is); (case k9 => k_is)
    (case a10 => k_is); (case l10 => k_is); (case c10 => k_is); (case k10 => k_is)
    (case a11 => k_is); (case l11 => k_is); (case c11 => k_is); (case k11 => k_is)
    (case a12 => k_is); (case l12 => k_is); (case c12 => k_is); (case k12 => k_is)
    (case a13 => k_is); (case l13 => k_is); (case c13 => k_is); (case k13 => k_is)
    (case a14 => k_is); (case l14 => k_is); (case c14 => k_is); (case k14 => k_is)
    (case a15 => k_is); (case l15 => k_is); (case c15 => k_is); (case k15 => k_is)
    (case a16 => k_is); (case l16 => k_is); (case c16 => k_is); (case k16 => k_is)
    (case a17 => k_is); (case l17 => k_is); (case c17 => k_is); (case k17 => k_is)
    (case a18 => k_is); (case l18 => k_is); (case c18 => k_is); (case k18 => k_is)
    (case a19 => k_is); (case l19 => k_is); (case c19 => k_is); (case k19 => k_is)
    (case a20 => k_is); (case l20 => k_is); (case c20 => k_is); (case k20 => k_is)
    (case a21 => k_is); (case l21 => k_is); (case c21 => k_is); (case k21 => k_is)
    (case z_abs => k_is); (case z_all => k_is); (case z_bool => k_is); (case z_enumerate => k_is)
    (case z_int => k_is); (case z_isinstance => k_is); (case z_len => k_is); (case z_list => k_is)
    (case z_max => k_is); (case z_min => k_is); (case z_range => k_is); (case z_sorted => k_is)
    (case z_sum => k_is); (case y_zip_longest => k_is); (case v_GREATEST_WHOLE => k_is); (case g_NoFit => k_is)
    (case x_NoFit => k_exc); (case k_NoFit => k_is); (case s_NoFit => k_is); (case t_NoFit => k_is)
    (case ehg_NoFit => k_is); (case ehk_NoFit => k_is); (case ehd_NoFit => k_is); (case eha_NoFit => k_is)
    (case ehm_NoFit => k_is); (case e_hn => k_is); (case e_ht => k_is)
