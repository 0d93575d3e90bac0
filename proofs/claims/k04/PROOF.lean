import PyProof.Rows.All
import Wide.All
import OpenK.AllK
import Wide.FinOn
import HandS.ForMost
import HandS.Zip
import HandS.Wide
import HandS.TupAny
import HandS.IsInst
import HandS.EndBits
import HandS.Walk
import HandS.More
import PySem.Challenge.RW_loopworks_k04_values_of_expressions
set_option Elab.async false
set_option linter.all false
set_option maxRecDepth 100000
set_option maxHeartbeats 4000000
namespace Bs
open PySem L2

/-! ### loops as one word -/
def Loop (J : It) (g : TG) (tb : TS) (D : Ends) (σ : St) (H1 : Hp) : Prop := ∃ W : Nat → Nat → St → Hp → Prop, (∃ m, W 0 m σ H1) ∧ ∀ i m σ H, W i m σ H →
  (J.stop i H ∧ D.nx σ H) ∨ (J.go i H ∧ ∃ N : St → Hp → Prop, (∀ σ' H', N σ' H' → ∃ m', m' < m ∧ W (i + 1) m' σ' H') ∧ ∀ x H', J.yld i H x H' → g x σ H' fun σ2 H2 => tb { D with nx := N, ct := N, bk := D.nx } σ2 H2)
theorem for_eq (wi : TI) (g : TG) (tb : TS) (D : Ends) (σ : St) (H : Hp) : tFor wi g tb D σ H = wi σ H fun J H1 => Loop J g tb D σ H1 := rfl
def LoopC (J : It) (g : TG) (tt : TT) (te : TE) (vs : List Nat) (σ : St) (H1 : Hp) (D : Addr) (Qd : Hp → Prop) : Prop := ∃ W : Nat → Nat → Hp → Prop, (∃ m, W 0 m (upd H1 D (.lst []))) ∧ ∀ i m H, W i m H →
  (J.stop i H ∧ Qd H) ∨ (J.go i H ∧ ∃ Nx : Hp → Prop, (∀ H', Nx H' → ∃ m', m' < m ∧ W (i + 1) m' H') ∧ ∀ x H', J.yld i H x H' → g x (wipe σ vs) H' fun σ2 H2 => wipe σ2 vs = wipe σ vs ∧ tt σ2 H2 fun b H3 =>
    if b = true then te σ2 H3 fun y H4 => ∃ acc, H4 D = some (.lst acc) ∧ acc.length < sizeLine ∧ Nx (upd H4 D (.lst (acc ++ [y]))) else Nx H3)
theorem lc_eq (wi : TI) (g : TG) (tt : TT) (te : TE) (vs : List Nat) (σ : St) (H : Hp) (Q : VK) : tLc wi g tt te vs σ H Q = wi σ H fun J H1 => ∀ D, H1 D = none → LoopC J g tt te vs σ H1 D (fun H => Q (.ref D) H) := rfl
def LoopW (c : TT) (tb : TS) (D : Ends) (σ : St) (H : Hp) : Prop := tWhile c tb D σ H
theorem while_eq (c : TT) (tb : TS) (D : Ends) (σ : St) (H : Hp) : tWhile c tb D σ H = LoopW c tb D σ H := rfl

theorem test_eq (t : TE) (σ : St) (H : Hp) (Q : Bool → Hp → Prop) : tTest t σ H Q = t σ H fun x H' => ∃ k, x = .bl k ∧ Q k H' := rfl
theorem ex_bl {b : Bool} {Q : Bool → Prop} : (∃ k, V.bl b = .bl k ∧ Q k) = Q b := propext ⟨fun ⟨k, e, q⟩ => by cases e; exact q, fun q => ⟨b, rfl, q⟩⟩
theorem ex_int {i : Int} {Q : Int → Prop} : (∃ k, V.int i = .int k ∧ Q k) = Q i := propext ⟨fun ⟨k, e, q⟩ => by cases e; exact q, fun q => ⟨i, rfl, q⟩⟩

theorem cxK {CX : CXT} {P : Program} {w : World} {K : PySem.W.Frag} {mg : Str → Option Value} {base : Heap} {N : List Str} {qual : Str} {scope : Scope} {f : Addr} {cd : Value} {A : Around} {outer : List Env} {s : Shared} {H : Hp} {E : XK} : (cxOf CX P w K mg base N qual scope f cd A outer s H E).K = K := rfl
/-! ### sizes -/
def Sz (n : Nat) (x : Int) : Prop := x.natAbs < 2 ^ n
theorem Sz.mono {a b : Nat} {x : Int} (h : Sz a x) (l : a ≤ b) : Sz b x := Nat.lt_of_lt_of_le h (Nat.pow_le_pow_right (by decide) l)
theorem Sz.add {a : Nat} {x y : Int} (h : Sz a x) (k : Sz a y) : Sz (a + 1) (x + y) := by
  unfold Sz at *
  rw [Nat.pow_succ]
  omega
theorem Sz.sub {a : Nat} {x y : Int} (h : Sz a x) (k : Sz a y) : Sz (a + 1) (x - y) := by
  unfold Sz at *
  rw [Nat.pow_succ]
  omega
theorem Sz.mul {a b : Nat} {x y : Int} (h : Sz a x) (k : Sz b y) : Sz (a + b) (x * y) := wide_lt h k
theorem Sz.zero (a : Nat) : Sz a 0 := Nat.pow_pos (by decide)
theorem Sz.bits {n : Int} {b : Nat} (h : Builtin.Int.intBits n ≤ b) : Sz (b + 1) n := by
  unfold Sz
  unfold Builtin.Int.intBits at h
  by_cases e : n.natAbs = 0
  · rw [e]; exact Nat.pow_pos (by decide)
  · have l : n.natAbs < 2 ^ (n.natAbs.log2 + 1) := Nat.lt_log2_self
    refine Nat.lt_of_lt_of_le l (Nat.pow_le_pow_right (by decide) ?_)
    have en : (n == 0) = false := by
      rw [beq_eq_false_iff_ne]
      intro z
      subst z
      exact e rfl
    rw [en] at h
    have h' : n.natAbs.log2 + 1 ≤ b := h
    omega
def CMulX (i j : Int) : Prop := ∃ a b : Nat, Sz a i ∧ Sz b j ∧ a + b ≤ 100000000
theorem log2_le_of {n a : Nat} (h : n < 2 ^ a) : n.log2 ≤ a := by
  by_cases e : n = 0
  · subst e; exact Nat.zero_le _
  · exact Nat.le_of_lt ((Nat.log2_lt e).mpr h)
theorem CMulX.ok {i j : Int} (h : CMulX i j) : IntMulOk i j := by
  obtain ⟨a, b, ha, hb, hab⟩ := h
  have q : ∀ x : Int, Builtin.Int.intBits x ≤ x.natAbs.log2 + 1 := fun x => by
    unfold Builtin.Int.intBits
    split <;> omega
  have h1 := q i
  have h2 := q j
  have h3 := log2_le_of ha
  have h4 := log2_le_of hb
  have e : bitsLine = 134217728 := by decide
  unfold IntMulOk
  intro z
  rw [Bool.and_eq_true] at z
  have z2 := z.2
  unfold Builtin.Int.intTooBig at z2
  have z3 := of_decide_eq_true z2
  rw [e] at z3
  omega
theorem op_mulX {X : Cx} : OpR X (binaryOp .Mult) (rI CMulX fun i j => .int (i * j)) := opI fun _ _ _ _ _ _ _ hc q => PyProof.Rows.mul_int q hc.ok
/-! ### loops and comprehensions over a walk -/
theorem loop_it {J : It} {n : Nat} {G : Hp → Prop} {Y : Nat → Hp → V → Hp → Prop} (w : Walk J n G Y) {g : TG} {tb : TS} {D : Ends} {σ : St} {H : Hp} (Pv : Nat → St → Hp → Prop) (h0 : Pv 0 σ H) (hG : ∀ i σ H, i ≤ n → Pv i σ H → G H)
    (hs : ∀ i x σ H H', i < n → Pv i σ H → Y i H x H' → g x σ H' fun σ2 H2 => tb { D with nx := Pv (i + 1), ct := Pv (i + 1), bk := D.nx } σ2 H2) (hd : ∀ σ H, Pv n σ H → D.nx σ H) : Loop J g tb D σ H := for_it w Pv h0 hG hs hd
theorem loopc_it {J : It} {n : Nat} {G : Hp → Prop} {Y : Nat → Hp → V → Hp → Prop} (w : Walk J n G Y) {g : TG} {tt : TT} {te : TE} {vs : List Nat} {σ : St} {H1 : Hp} {D : Addr} {Qd : Hp → Prop} (Pv : Nat → Hp → Prop) (h0 : Pv 0 (upd H1 D (.lst []))) (hG : ∀ i H, i ≤ n → Pv i H → G H)
    (hs : ∀ i x H H', i < n → Pv i H → Y i H x H' → g x (wipe σ vs) H' fun σ2 H2 => wipe σ2 vs = wipe σ vs ∧ tt σ2 H2 fun b H3 =>
      if b = true then te σ2 H3 fun y H4 => ∃ acc, H4 D = some (.lst acc) ∧ acc.length < sizeLine ∧ Pv (i + 1) (upd H4 D (.lst (acc ++ [y]))) else Pv (i + 1) H3) (hd : ∀ H, Pv n H → Qd H) : LoopC J g tt te vs σ H1 D Qd := lc_it w Pv h0 hG hs hd
theorem same_upd {H : Hp} {p : Addr} {o : HO} (h : H p = none) : Same H (upd H p o) := fun b x e => by
  rw [upd_ne (ne_of_none e h)]
  exact e
theorem same_upd2 {H H' : Hp} {p : Addr} {o : HO} (e : Same H H') (h : H p = none) : Same H (upd H' p o) := fun b x q => by
  rw [upd_ne (ne_of_none q h)]
  exact e _ _ q
/-- [e for ..], without a test, whose element is told by the turn -/
theorem lc_pure {J : It} {n : Nat} {G : Hp → Prop} {Y : Nat → Hp → V → Hp → Prop} (w : Walk J n G Y) {g : TG} {te : TE} {vs : List Nat} {σ : St} {H1 : Hp} {D : Addr} {Qd : Hp → Prop} (f : Nat → V) (hD : H1 D = none) (hn : n ≤ 1000)
    (hG : ∀ H', Same H1 H' → G H') (hY : ∀ i H x H', Y i H x H' → Same H H')
    (hs : ∀ i x H H' (R : VK), i < n → Same H1 H' → Y i H x H' → (∀ H4, Same H' H4 → R (f i) H4) → g x (wipe σ vs) H' fun σ2 H2 => wipe σ2 vs = wipe σ vs ∧ te σ2 H2 R)
    (hd : ∀ H', Same H1 H' → H' D = some (.lst ((List.range n).map f)) → Qd H') : LoopC J g tYes te vs σ H1 D Qd := by
  refine loopc_it w (fun i H => Same H1 H ∧ H D = some (.lst ((List.range i).map f))) ⟨same_upd hD, upd_same⟩ (fun i H _ p => hG H p.1) (fun i x H H' hi p y => ?_) (fun H p => hd H p.1 p.2)
  have hYs := hY _ _ _ _ y
  have q := hs i x H H' (fun y H4 => ∃ acc, H4 D = some (.lst acc) ∧ acc.length < sizeLine ∧ (Same H1 (upd H4 D (.lst (acc ++ [y]))) ∧ upd H4 D (.lst (acc ++ [y])) D = some (.lst ((List.range (i + 1)).map f)))) hi (p.1.trans hYs) y (fun H4 s4 => ?_)
  · exact q
  · refine ⟨_, s4 _ _ (hYs _ _ p.2), ?_, same_upd2 (p.1.trans (hYs.trans s4)) hD, ?_⟩
    · rw [List.length_map, List.length_range]
      exact small1000 (by omega)
    · rw [upd_same, List.range_succ, List.map_append]
      rfl
theorem range_getD {α : Type} (d : α) : ∀ ys : List α, (List.range ys.length).map (fun i => ys[i]?.getD d) = ys := fun ys => by
  refine List.ext_getElem? fun i => ?_
  rw [List.getElem?_map]
  by_cases h : i < ys.length
  · rw [List.getElem?_range h, List.getElem?_eq_getElem h]
    simp [h]
  · rw [List.getElem?_eq_none (by rw [List.length_range]; omega), List.getElem?_eq_none (by omega)]
    rfl
/-- the same by the list that comes out -/
theorem lc_ys {J : It} {n : Nat} {G : Hp → Prop} {Y : Nat → Hp → V → Hp → Prop} (w : Walk J n G Y) {g : TG} {te : TE} {vs : List Nat} {σ : St} {H1 : Hp} {D : Addr} {Qd : Hp → Prop} (ys : List V) (hD : H1 D = none) (hn : n ≤ 1000) (hl : ys.length = n)
    (hG : ∀ H', Same H1 H' → G H') (hY : ∀ i H x H', Y i H x H' → Same H H')
    (hs : ∀ i x y H H' (R : VK), i < n → ys[i]? = some y → Same H1 H' → Y i H x H' → (∀ H4, Same H' H4 → R y H4) → g x (wipe σ vs) H' fun σ2 H2 => wipe σ2 vs = wipe σ vs ∧ te σ2 H2 R)
    (hd : ∀ H', Same H1 H' → H' D = some (.lst ys) → Qd H') : LoopC J g tYes te vs σ H1 D Qd := by
  refine lc_pure w (fun i => ys[i]?.getD .non) hD hn hG hY (fun i x H H' R hi s1 y k => ?_) (fun H' s' e => hd H' s' ?_)
  · have hy : ys[i]? = some (ys[i]?.getD .non) := by
      rw [List.getElem?_eq_getElem (by omega)]
      rfl
    exact hs i x _ H H' R hi hy s1 y k
  · rw [← hl, range_getD] at e
    exact e
theorem walk_zipT {K : PySem.W.Frag} {a b : Addr} {xs ys : List V} {n : Nat} (hn : n = min xs.length ys.length) : Walk (RZ.ItzT K a b) n (fun H => SqT K H a xs ∧ SqT K H b ys) (YPair (fun i => xs[i]?) (fun i => ys[i]?)) := by
  subst hn
  refine ⟨fun i _ hi q => ?_, fun _ q => ⟨xs, ys, q.1, q.2, by omega⟩, fun i H v H' _ q y => ?_⟩
  · have h1 : i < xs.length := by omega
    have h2 : i < ys.length := by omega
    exact ⟨xs, ys, xs[i], ys[i], q.1, q.2, by simp [h1], by simp [h2]⟩
  · obtain ⟨T, x, z, h1, h2, h3, h4, h5⟩ := y
    exact ⟨T, x, z, h1, h2, h3, h4 xs q.1, h5 ys q.2⟩
theorem ypair_same {xs ys : Nat → Option V} : ∀ (i : Nat) (H : Hp) (x : V) (H' : Hp), YPair xs ys i H x H' → Same H H' := fun i H x H' ⟨T, _, _, _, n, e, _⟩ => by
  subst e
  exact same_upd n
theorem yat_same {xs : List V} : ∀ (i : Nat) (H : Hp) (x : V) (H' : Hp), YAt xs i H x H' → Same H H' := fun i H x H' ⟨e, _⟩ => by
  subst e
  exact Same.refl _
theorem yfn_same {f : Nat → V} : ∀ (i : Nat) (H : Hp) (x : V) (H' : Hp), YFn f i H x H' → Same H H' := fun i H x H' ⟨e, _⟩ => by
  subst e
  exact Same.refl _
theorem sameT {K : PySem.W.Frag} {H H' : Hp} {a : Addr} {xs : List V} (e : Same H H') (h : SqT K H a xs) : SqT K H' a xs := by
  rcases h with (h | ⟨o, h⟩) | h
  · exact .inl (.inl (e _ _ h))
  · exact .inl (.inr ⟨o, e _ _ h⟩)
  · exact .inr h
theorem scal_ii (a b : Int) : scal (.int a) (.int b) = true := rfl
theorem scal_ss (a b : Str) : scal (.str a) (.str b) = true := rfl
theorem scal_bb (a b : Bool) : scal (.bl a) (.bl b) = true := rfl
theorem dec_ii (a b : Int) : decide (V.int a = V.int b) = decide (a = b) := decide_eq_decide.mpr (by rw [V.int.injEq])
theorem dec_ss (a b : Str) : decide (V.str a = V.str b) = decide (a = b) := decide_eq_decide.mpr (by rw [V.str.injEq])
theorem dec_bb (a b : Bool) : decide (V.bl a = V.bl b) = decide (a = b) := decide_eq_decide.mpr (by rw [V.bl.injEq])
theorem walk_range0 {n : Nat} : Walk (Itr 0 n) n (fun _ => True) (fun i H x H' => H' = H ∧ x = V.int ((i : Nat) : Int)) :=
  ⟨fun _ _ hi _ => hi, fun _ _ => Nat.le_refl _, fun _ _ _ _ _ _ y => ⟨y.1, by rw [y.2, Int.zero_add]⟩⟩
theorem yat_at {xs : List V} {i : Nat} {H H' : Hp} {x : V} (y : YAt xs i H x H') : H' = H ∧ xs[i]? = some x := y
theorem isi {K : PySem.W.Frag} {H : Hp} {x : V} {a b : String} {r : Bool} {Q : VK} (ty : TyX K H x (.type a)) (hk : kitB a b = some r) (q : Q (.bl r) H) : rIsi K [x, .ty b] H Q :=
  ⟨x, .ty b, .type a, .type b, r, rfl, .ty b, ty, kit_ty hk, q⟩
theorem ty_int {K : PySem.W.Frag} {H : Hp} {i : Int} : TyX K H (.int i) (.type "int") := .base (.int i)
theorem ty_bl {K : PySem.W.Frag} {H : Hp} {i : Bool} : TyX K H (.bl i) (.type "bool") := .base (.bl i)
theorem ty_str {K : PySem.W.Frag} {H : Hp} {i : Str} : TyX K H (.str i) (.type "str") := .base (.str i)
theorem ty_tup {K : PySem.W.Frag} {H : Hp} {a : Addr} {xs : List V} (h : SqT K H a xs) : TyX K H (.ref a) (.type "tuple") := by
  rcases h with (h | ⟨o, h⟩) | ⟨o, _, _, h, c, _⟩
  · exact .base (.tup h)
  · exact .fTuple h
  · exact .kTuple h c
theorem ty_lst {K : PySem.W.Frag} {H : Hp} {a : Addr} {xs : List V} (h : SqL K H a xs) : TyX K H (.ref a) (.type "list") := by
  rcases h with (h | ⟨o, h⟩) | ⟨o, _, _, h, c, _⟩
  · exact .base (.lst h)
  · exact .base (.frz h)
  · exact .kList h c
end Bs
namespace K4
open PySem L2 Bs
local macro_rules | `(tactic| walk_at "wp") => `(tactic| simp only [tSeq, tAsg, gName, gTup, gCons, gNil, tVar, tC, tOp, tUn, rI, rI0, rU, tCB, tCons, tNil, tIfS, tRet, tRetN, tNext, test_eq, tB, tTup, tLst, tCall, tIf, tAndV, tOrV, tNotV, tNot, tAnd, tOr, rEq, rNe, scal_ii, scal_ss, scal_bb, dec_ii, dec_ss, dec_bb, for_eq, lc_eq, while_eq, tDrop, tYes, iList, iTup, iRng1, RZ.iZipA, L2.start, rIxL, rIxT, rIxS, cxK, tSl, tPart, tNoPart, tBM, tBM0, rAppend, tBM,
  List.map_cons, List.map_nil, List.length_cons, List.length_nil, List.cons_append, List.nil_append, List.append_nil, List.getElem?_cons_succ, List.getElem?_cons_zero, List.set_cons_succ, List.set_cons_zero, Nat.reduceAdd, Nat.reduceSub, List.replicate_succ, List.replicate_zero, wipe,
  Option.some.injEq, V.int.injEq, V.str.injEq, V.ref.injEq, V.bl.injEq, exists_eq_left, exists_eq_left', exists_and_left, exists_eq_right, List.cons.injEq, and_true, true_and, ex_bl, ex_int, exists_const, Nat.zero_add, Int.toNat_natCast, Int.zero_add, and_assoc, reduceCtorEq, false_and, and_false, exists_false, or_false, false_or, eq_self, decide_true, decide_false, ite_true, ite_false, if_true, if_false, Bool.false_eq_true, Bool.not_true, Bool.not_false, ↓reduceIte])
def top (i : Nat) : Stmt := PySem.Challenge.pw_loopworks_k04_values_of_expressions.main.body.getD i (.Pass ⟨0, 0, 0, 0⟩)
abbrev s_value_at : Stmt := top 1
theorem sc_value_at : FnScope ["expression", "point", "products", "coefficient", "value"] ["expression", "point"] (defScope s_value_at) := ⟨rfl, rfl, rfl, by decide +kernel, rfl, by decide +kernel, by decide +kernel⟩
abbrev s_holds : Stmt := top 2
theorem sc_holds : FnScope ["constraint", "point", "value"] ["constraint", "point"] (defScope s_holds) := ⟨rfl, rfl, rfl, by decide +kernel, rfl, by decide +kernel, by decide +kernel⟩
abbrev s_all_hold : Stmt := top 3
theorem sc_all_hold : FnScope ["constraints", "point", "constraint"] ["constraints", "point"] (defScope s_all_hold) := ⟨rfl, rfl, rfl, by decide +kernel, rfl, by decide +kernel, by decide +kernel⟩
abbrev s_add : Stmt := top 4
theorem sc_add : FnScope ["one", "other", "a", "b"] ["one", "other"] (defScope s_add) := ⟨rfl, rfl, rfl, by decide +kernel, rfl, by decide +kernel, by decide +kernel⟩
abbrev s_multiply : Stmt := top 5
theorem sc_multiply : FnScope ["factor", "expression", "number"] ["factor", "expression"] (defScope s_multiply) := ⟨rfl, rfl, rfl, by decide +kernel, rfl, by decide +kernel, by decide +kernel⟩
abbrev s_law_cell : Stmt := top 7
theorem sc_law_cell : FnScope ["script", "k"] ["script", "k"] (defScope s_law_cell) := ⟨rfl, rfl, rfl, by decide +kernel, rfl, by decide +kernel, by decide +kernel⟩
abbrev s_law_value : Stmt := top 8
theorem sc_law_value : FnScope ["expression", "point", "total", "k"] ["expression", "point"] (defScope s_law_value) := ⟨rfl, rfl, rfl, by decide +kernel, rfl, by decide +kernel, by decide +kernel⟩
abbrev s_law_holds : Stmt := top 9
theorem sc_law_holds : FnScope ["constraint", "point", "value"] ["constraint", "point"] (defScope s_law_holds) := ⟨rfl, rfl, rfl, by decide +kernel, rfl, by decide +kernel, by decide +kernel⟩
abbrev s_law_all_hold : Stmt := top 10
theorem sc_law_all_hold : FnScope ["constraints", "point", "constraint"] ["constraints", "point"] (defScope s_law_all_hold) := ⟨rfl, rfl, rfl, by decide +kernel, rfl, by decide +kernel, by decide +kernel⟩
abbrev s_law_is_integer : Stmt := top 11
theorem sc_law_is_integer : FnScope ["actual"] ["actual"] (defScope s_law_is_integer) := ⟨rfl, rfl, rfl, by decide +kernel, rfl, by decide +kernel, by decide +kernel⟩
abbrev s_law_is_tuple_of_integers : Stmt := top 12
theorem sc_law_is_tuple_of_integers : FnScope ["actual", "part"] ["actual"] (defScope s_law_is_tuple_of_integers) := ⟨rfl, rfl, rfl, by decide +kernel, rfl, by decide +kernel, by decide +kernel⟩
abbrev s_law_same : Stmt := top 13
theorem sc_law_same : FnScope ["actual", "expected", "k"] ["actual", "expected"] (defScope s_law_same) := ⟨rfl, rfl, rfl, by decide +kernel, rfl, by decide +kernel, by decide +kernel⟩
abbrev s_law_numbers : Stmt := top 14
theorem sc_law_numbers : FnScope ["script", "first", "count", "k"] ["script", "first", "count"] (defScope s_law_numbers) := ⟨rfl, rfl, rfl, by decide +kernel, rfl, by decide +kernel, by decide +kernel⟩
abbrev s_law_constraint : Stmt := top 15
theorem sc_law_constraint : FnScope ["script", "first", "expression", "kind"] ["script", "first", "expression"] (defScope s_law_constraint) := ⟨rfl, rfl, rfl, by decide +kernel, rfl, by decide +kernel, by decide +kernel⟩
abbrev s_law : Stmt := top 16
theorem sc_law : FnScope ["script", "count", "one", "other", "point", "factor", "total", "multiple", "listed", "k", "expression", "constraint"] ["script"] (defScope s_law) := ⟨rfl, rfl, rfl, by decide +kernel, rfl, by decide +kernel, by decide +kernel⟩
structure Ad where
  f_value_at : Addr
  f_holds : Addr
  f_all_hold : Addr
  f_add : Addr
  f_multiply : Addr
  f_law_cell : Addr
  f_law_value : Addr
  f_law_holds : Addr
  f_law_all_hold : Addr
  f_law_is_integer : Addr
  f_law_is_tuple_of_integers : Addr
  f_law_same : Addr
  f_law_numbers : Addr
  f_law_constraint : Addr
  f_law : Addr
  d_value_at : FuncData
  d_holds : FuncData
  d_all_hold : FuncData
  d_add : FuncData
  d_multiply : FuncData
  d_law_cell : FuncData
  d_law_value : FuncData
  d_law_holds : FuncData
  d_law_all_hold : FuncData
  d_law_is_integer : FuncData
  d_law_is_tuple_of_integers : FuncData
  d_law_same : FuncData
  d_law_numbers : FuncData
  d_law_constraint : FuncData
  d_law : FuncData
structure Txt (K : PySem.W.Frag) (mg : Str → Option Value) (A : Ad) : Prop where
  b_sum : mg "sum" = none
  b_zip : mg "zip" = none
  b_all : mg "all" = none
  b_tuple : mg "tuple" = none
  b_len : mg "len" = none
  b_int : mg "int" = none
  b_range : mg "range" = none
  b_isinstance : mg "isinstance" = none
  b_bool : mg "bool" = none
  g_value_at : mg "value_at" = some (.ref A.f_value_at)
  F_value_at : Fun K "value_at" "value_at" s_value_at A.f_value_at A.d_value_at
  B_value_at : Binds K A.d_value_at ["expression", "point"] []
  g_holds : mg "holds" = some (.ref A.f_holds)
  F_holds : Fun K "holds" "holds" s_holds A.f_holds A.d_holds
  B_holds : Binds K A.d_holds ["constraint", "point"] []
  g_all_hold : mg "all_hold" = some (.ref A.f_all_hold)
  F_all_hold : Fun K "all_hold" "all_hold" s_all_hold A.f_all_hold A.d_all_hold
  B_all_hold : Binds K A.d_all_hold ["constraints", "point"] []
  g_add : mg "add" = some (.ref A.f_add)
  F_add : Fun K "add" "add" s_add A.f_add A.d_add
  B_add : Binds K A.d_add ["one", "other"] []
  g_multiply : mg "multiply" = some (.ref A.f_multiply)
  F_multiply : Fun K "multiply" "multiply" s_multiply A.f_multiply A.d_multiply
  B_multiply : Binds K A.d_multiply ["factor", "expression"] []
  g_law_cell : mg "_law_cell" = some (.ref A.f_law_cell)
  F_law_cell : Fun K "_law_cell" "_law_cell" s_law_cell A.f_law_cell A.d_law_cell
  B_law_cell : Binds K A.d_law_cell ["script", "k"] []
  g_law_value : mg "_law_value" = some (.ref A.f_law_value)
  F_law_value : Fun K "_law_value" "_law_value" s_law_value A.f_law_value A.d_law_value
  B_law_value : Binds K A.d_law_value ["expression", "point"] []
  g_law_holds : mg "_law_holds" = some (.ref A.f_law_holds)
  F_law_holds : Fun K "_law_holds" "_law_holds" s_law_holds A.f_law_holds A.d_law_holds
  B_law_holds : Binds K A.d_law_holds ["constraint", "point"] []
  g_law_all_hold : mg "_law_all_hold" = some (.ref A.f_law_all_hold)
  F_law_all_hold : Fun K "_law_all_hold" "_law_all_hold" s_law_all_hold A.f_law_all_hold A.d_law_all_hold
  B_law_all_hold : Binds K A.d_law_all_hold ["constraints", "point"] []
  g_law_is_integer : mg "_law_is_integer" = some (.ref A.f_law_is_integer)
  F_law_is_integer : Fun K "_law_is_integer" "_law_is_integer" s_law_is_integer A.f_law_is_integer A.d_law_is_integer
  B_law_is_integer : Binds K A.d_law_is_integer ["actual"] []
  g_law_is_tuple_of_integers : mg "_law_is_tuple_of_integers" = some (.ref A.f_law_is_tuple_of_integers)
  F_law_is_tuple_of_integers : Fun K "_law_is_tuple_of_integers" "_law_is_tuple_of_integers" s_law_is_tuple_of_integers A.f_law_is_tuple_of_integers A.d_law_is_tuple_of_integers
  B_law_is_tuple_of_integers : Binds K A.d_law_is_tuple_of_integers ["actual"] []
  g_law_same : mg "_law_same" = some (.ref A.f_law_same)
  F_law_same : Fun K "_law_same" "_law_same" s_law_same A.f_law_same A.d_law_same
  B_law_same : Binds K A.d_law_same ["actual", "expected"] []
  g_law_numbers : mg "_law_numbers" = some (.ref A.f_law_numbers)
  F_law_numbers : Fun K "_law_numbers" "_law_numbers" s_law_numbers A.f_law_numbers A.d_law_numbers
  B_law_numbers : Binds K A.d_law_numbers ["script", "first", "count"] []
  g_law_constraint : mg "_law_constraint" = some (.ref A.f_law_constraint)
  F_law_constraint : Fun K "_law_constraint" "_law_constraint" s_law_constraint A.f_law_constraint A.d_law_constraint
  B_law_constraint : Binds K A.d_law_constraint ["script", "first", "expression"] []
  g_law : mg "law" = some (.ref A.f_law)
  F_law : Fun K "law" "law" s_law A.f_law A.d_law
  B_law : Binds K A.d_law ["script"] []
def dot : List Int → List Int → Int
  | a :: c, b :: p => a * b + dot c p
  | _, _ => 0
/-- a constraint, without its expression -/
inductive Con where
  | ge | eq | div (m : Int)
def Con.v : Con → Addr → List V
  | .ge, e => [.str "ge", .ref e]
  | .eq, e => [.str "eq", .ref e]
  | .div m, e => [.str "div", .int m, .ref e]
def Con.ok : Con → Prop
  | .div m => 1 ≤ m
  | _ => True
def Con.holds : Con → Int → Bool
  | .ge, x => decide (0 ≤ x)
  | .eq, x => decide (x = 0)
  | .div m, x => decide (x.fmod m = 0)
/-- an expression and a point that fit -/
structure Ex (K : PySem.W.Frag) (H : Hp) (a b : Addr) (c : List Int) (d : Int) (p : List Int) : Prop where
  ea : SqT K H a ((c ++ [d]).map V.int)
  pb : SqT K H b (p.map V.int)
  len : c.length = p.length
  sm : p.length ≤ 100
  cs : ∀ x ∈ c, Sz 30000000 x
  ps : ∀ x ∈ p, Sz 30000000 x
theorem Ex.same {K : PySem.W.Frag} {H H' : Hp} {a b : Addr} {c p : List Int} {d : Int} (x : Ex K H a b c d p) (e : Same H H') : Ex K H' a b c d p :=
  ⟨sameT e x.ea, sameT e x.pb, x.len, x.sm, x.cs, x.ps⟩
def dotk (c p : List Int) : Nat → Int
  | 0 => 0
  | i + 1 => dotk c p i + c.getD i 0 * p.getD i 0
theorem dotk_cons (a b : Int) (c p : List Int) : ∀ i, dotk (a :: c) (b :: p) (i + 1) = a * b + dotk c p i
  | 0 => by simp [dotk]
  | i + 1 => by
    rw [dotk, dotk_cons a b c p i, dotk]
    simp only [List.getD_cons_succ]
    omega
theorem dotk_eq : ∀ (c p : List Int), c.length = p.length → dotk c p p.length = dot c p
  | [], [], _ => rfl
  | a :: c, b :: p, h => by
    rw [List.length_cons, dotk_cons, dotk_eq c p (by simpa using h), dot]
theorem sum_range : ∀ (f : Nat → Int) (n : Nat) (c p : List Int), (∀ i, f i = c.getD i 0 * p.getD i 0) → ((List.range n).map f).sum = dotk c p n
  | f, 0, c, p, h => rfl
  | f, n + 1, c, p, h => by
    rw [List.range_succ, List.map_append, List.sum_append, sum_range f n c p h]
    simp [dotk, h]
theorem getE {c : List Int} {d : Int} {i : Nat} (h : i < c.length) : ((c ++ [d]).map V.int)[i]? = some (V.int (c.getD i 0)) := by
  rw [List.getElem?_map, List.getElem?_append_left h, List.getElem?_eq_getElem h, List.getD_eq_getElem?_getD, List.getElem?_eq_getElem h]
  rfl
theorem getP {p : List Int} {i : Nat} (h : i < p.length) : (p.map V.int)[i]? = some (V.int (p.getD i 0)) := by
  rw [List.getElem?_map, List.getElem?_eq_getElem h, List.getD_eq_getElem?_getD, List.getElem?_eq_getElem h]
  rfl
theorem memD {p : List Int} {i : Nat} (h : i < p.length) : p.getD i 0 ∈ p := by
  rw [List.getD_eq_getElem?_getD, List.getElem?_eq_getElem h]
  exact List.getElem_mem h
theorem lastE {c : List Int} {d : Int} : atI ((c ++ [d]).map V.int) (-1) = some (V.int d) := by
  rw [List.map_append]
  exact atI_last _ _
section
variable {P : Program} {w : World} {K : PySem.W.Frag} {mg : Str → Option Value} {base : Heap} {A : Ad}
def sp_law_cell (K : PySem.W.Frag) : Sp := fun vs H Q _ => ∃ (l : Addr) (ns : List Int) (j : Nat), vs = [V.ref l, V.int (j : Nat)] ∧ SqL K H l (ns.map V.int) ∧ Q (.int (L2.cellOf ns j)) H
def sp_value_at (K : PySem.W.Frag) : Sp := fun vs H Q _ => ∃ a b c d p, vs = [.ref a, .ref b] ∧ Ex K H a b c d p ∧ ∀ H', Same H H' → Q (.int (dot c p + d)) H'
def sp_law_value (K : PySem.W.Frag) : Sp := sp_value_at K
def sp_holds (K : PySem.W.Frag) : Sp := fun vs H Q _ => ∃ t a b c d p k, vs = [.ref t, .ref b] ∧ SqT K H t (Con.v k a) ∧ k.ok ∧ Ex K H a b c d p ∧ ∀ H', Same H H' → Q (.bl (k.holds (dot c p + d))) H'
def sp_law_holds (K : PySem.W.Frag) : Sp := sp_holds K

structure Rc where
  t : Addr
  k : Con
  a : Addr
  c : List Int
  d : Int
structure RcOk (K : PySem.W.Frag) (H : Hp) (b : Addr) (p : List Int) (r : Rc) : Prop where
  ht : SqT K H r.t (r.k.v r.a)
  ok : r.k.ok
  ex : Ex K H r.a b r.c r.d p
theorem RcOk.same {K : PySem.W.Frag} {H H' : Hp} {b : Addr} {p : List Int} {r : Rc} (x : RcOk K H b p r) (e : Same H H') : RcOk K H' b p r := ⟨sameT e x.ht, x.ok, x.ex.same e⟩
def rcv (p : List Int) (r : Rc) : Bool := r.k.holds (dot r.c p + r.d)
def sp_all_hold (K : PySem.W.Frag) : Sp := fun vs H Q _ => ∃ (l b : Addr) (p : List Int) (rs : List Rc), vs = [.ref l, .ref b] ∧ SqT K H l (rs.map fun r => V.ref r.t) ∧ rs.length ≤ 10 ∧ (∀ r ∈ rs, RcOk K H b p r) ∧ ∀ H', Same H H' → Q (.bl (rs.all (rcv p))) H'
def sp_law_all_hold (K : PySem.W.Frag) : Sp := fun vs H Q _ => ∃ (l b : Addr) (p : List Int) (rs : List Rc), vs = [.ref l, .ref b] ∧ SqL K H l (rs.map fun r => V.ref r.t) ∧ rs.length ≤ 10 ∧ (∀ r ∈ rs, RcOk K H b p r) ∧ ∀ H', Same H H' → Q (.bl (rs.all (rcv p))) H'
def sp_add (K : PySem.W.Frag) : Sp := fun vs H Q _ => ∃ (a b : Addr) (xs ys : List Int), vs = [.ref a, .ref b] ∧ SqT K H a (xs.map V.int) ∧ SqT K H b (ys.map V.int) ∧ xs.length = ys.length ∧ ys.length ≤ 100 ∧ ∀ H' t, Same H H' → H' t = some (.tup ((List.zipWith (· + ·) xs ys).map V.int)) → Q (.ref t) H'
def sp_multiply (K : PySem.W.Frag) : Sp := fun vs H Q _ => ∃ (f : Int) (a : Addr) (xs : List Int), vs = [.int f, .ref a] ∧ SqT K H a (xs.map V.int) ∧ xs.length ≤ 100 ∧ Sz 10000000 f ∧ (∀ x ∈ xs, Sz 10000000 x) ∧ ∀ H' t, Same H H' → H' t = some (.tup ((xs.map (f * ·)).map V.int)) → Q (.ref t) H'
def cellsOf (ns : List Int) (first count : Nat) : List Int := (List.range count).map fun k => cellOf ns (first + k)
def sp_law_numbers (K : PySem.W.Frag) : Sp := fun vs H Q _ => ∃ (l : Addr) (ns : List Int) (first count : Nat), vs = [.ref l, .int (first : Int), .int (count : Int)] ∧ SqL K H l (ns.map V.int) ∧ count ≤ 100 ∧ ∀ H' t, Same H H' → H' t = some (.tup ((cellsOf ns first count).map V.int)) → Q (.ref t) H'
def sp_law_constraint (K : PySem.W.Frag) : Sp := fun vs H Q _ => ∃ (l : Addr) (ns : List Int) (first : Nat) (e : Addr), vs = [.ref l, .int (first : Int), .ref e] ∧ SqL K H l (ns.map V.int) ∧ ∀ H' t (k : Con), Same H H' → H' t = some (.tup (k.v e)) → k.ok → Q (.ref t) H'
def sp_law_is_integer (K : PySem.W.Frag) : Sp := fun vs H Q _ => ∃ i : Int, vs = [.int i] ∧ Q (.bl true) H
def sp_law_is_tuple_of_integers (K : PySem.W.Frag) : Sp := fun vs H Q _ => ∃ (a : Addr) (xs : List Int), vs = [.ref a] ∧ SqT K H a (xs.map V.int) ∧ Q (.bl true) H
def sp_law_same (K : PySem.W.Frag) : Sp := fun vs H Q _ => ∃ x, vs = [x, x] ∧ ((∃ i, x = .int i) ∨ ∃ b, x = .bl b) ∧ Q (.bl true) H
theorem ok_law_cell (T : Txt K mg A) : FnOk P w K mg base CX0 1 A.f_law_cell A.d_law_cell ["script", "k"] (sp_law_cell K) := by
  refine T.F_law_cell.ok sc_law_cell (fun vs H Q E h => ?_) (fun cdv A' outer s H vs Q E hr h => ?_)
  · obtain ⟨a, ns, j, rfl, _⟩ := h
    rfl
  · obtain ⟨a, ns, j, rfl, hS, q⟩ := h
    refine ⟨_, (pss_cons (ps_if (pt_cmpR op_lt (pv 1) (pe_callB call_len_seq (by rfl) T.b_len (by decide +kernel) (pa_cons (pv 0) pa_nil)) (nomark _)) 
      (pss_one (ps_ret (pe_callTy call_int1 (by rfl) T.b_int (by decide +kernel) (pa_cons (pe_ix ix_list (pv 0) (pv 1) (fun _ _ => rfl)) pa_nil)))) pss_nil) 
    (pss_one (ps_ret pe_int))), ?_⟩
    walk_at "wp"
    refine ⟨_, .inl hS, ?_⟩
    by_cases hj : j < ns.length
    · rw [if_pos (by rw [List.length_map]; exact decide_eq_true (by omega))]
      refine ⟨_, hS, _, atI_cell hj, .inl ⟨_, rfl, q⟩⟩
    · rw [if_neg (by rw [List.length_map, decide_eq_true_eq]; omega)]
      rw [cell_out hj] at q
      exact q
theorem ok_value_at (T : Txt K mg A) : FnOk P w K mg base CX0 1 A.f_value_at A.d_value_at ["expression", "point"] (sp_value_at K) := by
  refine T.F_value_at.ok sc_value_at (fun vs H Q E h => ?_) (fun cdv A' outer s H vs Q E hr h => ?_)
  · obtain ⟨a, b, c, d, p, rfl, _⟩ := h
    rfl
  · obtain ⟨a, b, c, d, p, rfl, X, q⟩ := h
    refine ⟨_, (pss_cons (ps_setLc (i := 2) (own := [("coefficient", 3), ("value", 4)]) (g := (gTup K 2 (gCons (gName 3) (gCons (gName 4) gNil)))) (by rfl) sc_value_at.nd rfl rfl (sw_true rfl rfl rfl (by decide +kernel)) (RZ.pi_zipA (by rfl) T.b_zip (pa_cons (pv 0) (pa_cons (pv 1) pa_nil))) (blkOk_by (own := [("coefficient", 3), ("value", 4)]) (N := ["expression", "point", "products", "coefficient", "value"]) (sc := defScope s_value_at) (by decide +kernel)) (fun _ _ _ _ _ => (pg_tup rfl (pgs_cons (pg_name (i := 3) sc_value_at.nd rfl (Or.inl rfl) (Or.inr rfl)) (pgs_cons (pg_name (i := 4) sc_value_at.nd rfl (Or.inl rfl) (Or.inr rfl)) pgs_nil)))) (fun _ _ _ _ _ => pts_nil) (fun _ _ _ _ _ => (pe_op op_mulX (pv 3) (pv 4)))) 
    (pss_one (ps_ret (pe_op op_add (pe_callB (cr_sum rfl) (by rfl) T.b_sum (by decide +kernel) (pa_cons (pv 2) pa_nil)) (pe_ix ix_tup (pv 0) (pe_un un_neg pe_int) (fun _ _ => rfl)))))), ?_⟩
    walk_at "wp"
    refine ⟨_, _, .inr ⟨X.ea, X.pb, fun D hD => ?_⟩⟩
    refine lc_pure (walk_zipT (n := p.length) (by rw [List.length_map, List.length_map, List.length_append, List.length_singleton, X.len]; omega)) (fun i => V.int (c.getD i 0 * p.getD i 0)) hD (by have := X.sm; omega) (fun H' s' => ⟨sameT s' X.ea, sameT s' X.pb⟩) ypair_same (fun i x H1 H2 R hi s1 y k => ?_) (fun H' s' e => ?_)
    · obtain ⟨t, x, y, rfl, nt, rfl, e1, e2⟩ := y
      have hc : i < c.length := by rw [X.len]; exact hi
      cases e1.symm.trans (getE hc)
      cases e2.symm.trans (getP hi)
      walk_at "wp"
      refine ⟨_, .inl (.inl upd_same), ?_⟩
      walk_at "wp"
      exact ⟨⟨_, _, X.cs _ (memD hc), X.ps _ (memD hi), by decide⟩, k _ (Same.refl _)⟩
    · refine ⟨D, (List.range p.length).map (fun i => c.getD i 0 * p.getD i 0), rfl, ?_, _, sameT s' X.ea, _, lastE, _, rfl, _, rfl, ?_⟩
      · rw [List.map_map]
        exact SqL.of e
      · rw [sum_range _ _ c p (fun _ => rfl), dotk_eq _ _ X.len]
        exact q _ s'
theorem holds_v {k : Con} {e : Addr} : atI (Con.v k e) (-1) = some (V.ref e) := by cases k <;> rfl
theorem ok_holds (T : Txt K mg A) : FnOk P w K mg base CX0 2 A.f_holds A.d_holds ["constraint", "point"] (sp_holds K) := by
  have G_value_at := ok_value_at (P := P) (w := w) (base := base) T
  refine T.F_holds.ok sc_holds (fun vs H Q E h => ?_) (fun cdv A' outer s H vs Q E hr h => ?_)
  · obtain ⟨t, a, b, c, d, p, k, rfl, _⟩ := h
    rfl
  · obtain ⟨t, a, b, c, d, p, k, rfl, hT, hk, X, q⟩ := h
    refine ⟨_, (pss_cons (ps_set (i := 2) sc_holds.nd rfl (Or.inl rfl) (pe_call G_value_at hr (by rfl) T.g_value_at T.F_value_at.kp T.B_value_at .nil pass0 (pa_cons (pe_ix ix_tup (pv 0) (pe_un un_neg pe_int) (fun _ _ => rfl)) (pa_cons (pv 1) pa_nil)))) 
    (pss_cons (ps_if (pt_cmpR op_eq (pe_ix ix_tup (pv 0) pe_int (fun _ _ => rfl)) pe_str (nomark _)) 
      (pss_one (ps_ret (pe_cmpR op_ge (pv 2) pe_int (nomark _)))) pss_nil) 
    (pss_cons (ps_if (pt_cmpR op_eq (pe_ix ix_tup (pv 0) pe_int (fun _ _ => rfl)) pe_str (nomark _)) 
      (pss_one (ps_ret (pe_cmpR op_eq (pv 2) pe_int (nomark _)))) pss_nil) 
    (pss_one (ps_ret (pe_cmpR op_eq (pe_op op_modN (pv 2) (pe_ix ix_tup (pv 0) pe_int (fun _ _ => rfl))) pe_int (nomark _))))))), ?_⟩
    walk_at "wp"
    refine ⟨_, hT, _, holds_v, a, b, c, d, p, rfl, X, fun H' s' => ?_⟩
    have hT' := sameT s' hT
    refine ⟨_, hT', ?_⟩
    have q' := q H' s'
    have n1 : ("eq" : Str) ≠ "ge" := by decide +kernel
    have n2 : ("div" : Str) ≠ "ge" := by decide +kernel
    have n3 : ("div" : Str) ≠ "eq" := by decide +kernel
    cases k with
    | ge =>
      refine ⟨_, rfl, ?_⟩
      walk_at "wp"
      exact q'
    | eq =>
      refine ⟨_, rfl, ?_⟩
      walk_at "wp"
      rw [if_neg (by rw [decide_eq_true_eq]; exact n1)]
      refine ⟨_, hT', _, rfl, ?_⟩
      walk_at "wp"
      exact q'
    | div m =>
      refine ⟨_, rfl, ?_⟩
      walk_at "wp"
      rw [if_neg (by rw [decide_eq_true_eq]; exact n2)]
      refine ⟨_, hT', _, rfl, ?_⟩
      walk_at "wp"
      rw [if_neg (by rw [decide_eq_true_eq]; exact n3)]
      refine ⟨_, hT', _, rfl, ?_⟩
      walk_at "wp"
      have h1 : 1 ≤ m := hk
      exact ⟨by omega, q'⟩
theorem ok_law_value (T : Txt K mg A) : FnOk P w K mg base CX0 1 A.f_law_value A.d_law_value ["expression", "point"] (sp_law_value K) := by
  refine T.F_law_value.ok sc_law_value (fun vs H Q E h => ?_) (fun cdv A' outer s H vs Q E hr h => ?_)
  · obtain ⟨a, b, c, d, p, rfl, _⟩ := h
    rfl
  · obtain ⟨a, b, c, d, p, rfl, X, q⟩ := h
    refine ⟨_, (pss_cons (ps_set (i := 2) sc_law_value.nd rfl (Or.inl rfl) (pe_ix ix_tup (pv 0) (pe_un un_neg pe_int) (fun _ _ => rfl))) 
    (pss_cons (ps_for PassesOwn.never rfl (pi_range1 (by rfl) T.b_range (pa_cons (pe_callB call_len_seq (by rfl) T.b_len (by decide +kernel) (pa_cons (pv 1) pa_nil)) pa_nil)) (pg_name (i := 3) sc_law_value.nd rfl (Or.inl rfl)) 
      (pss_one (ps_set (i := 2) sc_law_value.nd rfl (Or.inl rfl) (pe_op op_add (pv 2) (pe_op op_mulX (pe_ix ix_tup (pv 0) (pv 3) (fun _ _ => rfl)) (pe_ix ix_tup (pv 1) (pv 3) (fun _ _ => rfl))))))) 
    (pss_one (ps_ret (pv 2))))), ?_⟩
    walk_at "wp"
    refine ⟨_, X.ea, _, lastE, _, .inr X.pb, ?_⟩
    have h100 := X.sm
    rw [List.length_map]
    refine ⟨by omega, by omega, ?_⟩
    refine loop_it (walk_range0 (n := p.length)) (fun i σ H' => H' = H ∧ ∃ v, σ = [some (V.ref a), some (V.ref b), some (V.int (dotk c p i + d)), v]) ⟨rfl, _, by rw [dotk, Int.zero_add]⟩ (fun _ _ _ _ _ => trivial) ?_ ?_
    · rintro i x σ H1 H2 hi ⟨rfl, v, rfl⟩ ⟨rfl, rfl⟩
      have hc : i < c.length := by rw [X.len]; exact hi
      walk_at "wp"
      refine ⟨_, X.ea, _, atI_nat (getE hc), _, X.pb, _, atI_nat (getP hi), ?_⟩
      walk_at "wp"
      refine ⟨⟨_, _, X.cs _ (memD hc), X.ps _ (memD hi), by decide⟩, ?_, _, rfl⟩
      rw [dotk]
      omega
    · rintro σ H1 ⟨rfl, v, rfl⟩
      walk_at "wp"
      rw [dotk_eq _ _ X.len]
      exact q _ (Same.refl _)
theorem ok_law_holds (T : Txt K mg A) : FnOk P w K mg base CX0 2 A.f_law_holds A.d_law_holds ["constraint", "point"] (sp_law_holds K) := by
  have G_law_value := ok_law_value (P := P) (w := w) (base := base) T
  refine T.F_law_holds.ok sc_law_holds (fun vs H Q E h => ?_) (fun cdv A' outer s H vs Q E hr h => ?_)
  · obtain ⟨t, a, b, c, d, p, k, rfl, _⟩ := h
    rfl
  · obtain ⟨t, a, b, c, d, p, k, rfl, hT, hk, X, q⟩ := h
    refine ⟨_, (pss_cons (ps_set (i := 2) sc_law_holds.nd rfl (Or.inl rfl) (pe_call G_law_value hr (by rfl) T.g_law_value T.F_law_value.kp T.B_law_value .nil pass0 (pa_cons (pe_ix ix_tup (pv 0) (pe_un un_neg pe_int) (fun _ _ => rfl)) (pa_cons (pv 1) pa_nil)))) 
    (pss_cons (ps_if (pt_cmpR op_eq (pe_ix ix_tup (pv 0) pe_int (fun _ _ => rfl)) pe_str (nomark _)) 
      (pss_one (ps_ret (pe_cmpR op_ge (pv 2) pe_int (nomark _)))) pss_nil) 
    (pss_cons (ps_if (pt_cmpR op_eq (pe_ix ix_tup (pv 0) pe_int (fun _ _ => rfl)) pe_str (nomark _)) 
      (pss_one (ps_ret (pe_cmpR op_eq (pv 2) pe_int (nomark _)))) pss_nil) 
    (pss_one (ps_ret (pe_cmpR op_eq (pe_op op_modN (pe_callTy call_int1 (by rfl) T.b_int (by decide +kernel) (pa_cons (pv 2) pa_nil)) (pe_ix ix_tup (pv 0) pe_int (fun _ _ => rfl))) pe_int (nomark _))))))), ?_⟩
    walk_at "wp"
    refine ⟨_, hT, _, holds_v, a, b, c, d, p, rfl, X, fun H' s' => ?_⟩
    have hT' := sameT s' hT
    refine ⟨_, hT', ?_⟩
    have q' := q H' s'
    have n1 : ("eq" : Str) ≠ "ge" := by decide +kernel
    have n2 : ("div" : Str) ≠ "ge" := by decide +kernel
    have n3 : ("div" : Str) ≠ "eq" := by decide +kernel
    cases k with
    | ge =>
      refine ⟨_, rfl, ?_⟩
      walk_at "wp"
      exact q'
    | eq =>
      refine ⟨_, rfl, ?_⟩
      walk_at "wp"
      rw [if_neg (by rw [decide_eq_true_eq]; exact n1)]
      refine ⟨_, hT', _, rfl, ?_⟩
      walk_at "wp"
      exact q'
    | div m =>
      refine ⟨_, rfl, ?_⟩
      walk_at "wp"
      rw [if_neg (by rw [decide_eq_true_eq]; exact n2)]
      refine ⟨_, hT', _, rfl, ?_⟩
      walk_at "wp"
      rw [if_neg (by rw [decide_eq_true_eq]; exact n3)]
      refine ⟨_, hT', _, rfl, ?_⟩
      walk_at "wp"
      have h1 : 1 ≤ m := hk
      exact ⟨by omega, q'⟩

theorem ok_all_hold (T : Txt K mg A) : FnOk P w K mg base CX0 3 A.f_all_hold A.d_all_hold ["constraints", "point"] (sp_all_hold K) := by
  have G_holds := ok_holds (P := P) (w := w) (base := base) T
  refine T.F_all_hold.ok sc_all_hold (fun vs H Q E h => ?_) (fun cdv A' outer s H vs Q E hr h => ?_)
  · obtain ⟨l, b, p, rs, rfl, _⟩ := h
    rfl
  · obtain ⟨l, b, p, rs, rfl, hL, hn, hR, q⟩ := h
    refine ⟨_, (pss_one (ps_ret (pe_callB (cr_all rfl) (by rfl) T.b_all (by decide +kernel) (pa_cons (pe_lc (own := [("constraint", 2)]) (by rfl) sc_all_hold.nd (pi_tup (pv 0)) (blkOk_by (own := [("constraint", 2)]) (N := ["constraints", "point", "constraint"]) (sc := defScope s_all_hold) (by decide +kernel)) (fun _ _ _ _ _ => (pg_name (i := 2) sc_all_hold.nd rfl (Or.inl rfl) (Or.inr rfl))) (fun _ _ _ _ _ => pts_nil) (fun _ _ _ _ _ => (pe_call G_holds hr (by rfl) T.g_holds T.F_holds.kp T.B_holds .nil pass0 (pa_cons (pv 2) (pa_cons (pv 1) pa_nil))))) pa_nil)))), ?_⟩
    walk_at "wp"
    refine ⟨⟨_, hL⟩, fun D hD => ?_⟩
    refine lc_ys (walk_tup (xs := rs.map fun r => V.ref r.t)) (rs.map fun r => V.bl (rcv p r)) hD (by rw [List.length_map]; omega) (by rw [List.length_map, List.length_map]) (fun H' s' => sameT s' hL) yat_same (fun i x y H1 H2 R hi hy s1 yy k => ?_) (fun H' s' e => ?_)
    · obtain ⟨rfl, e⟩ := yat_at yy
      rw [List.length_map] at hi
      rw [List.getElem?_map, List.getElem?_eq_getElem hi] at e hy
      cases e
      cases hy
      have ok := (hR _ (List.getElem_mem hi)).same s1
      walk_at "wp"
      exact ⟨_, _, _, _, _, _, _, rfl, ok.ht, ok.ok, ok.ex, k⟩
    · refine ⟨D, rs.map (rcv p), rfl, ?_, ?_⟩
      · rw [List.map_map]
        exact SqL.of e
      · rw [List.all_map]
        exact q _ s'
theorem ok_law_all_hold (T : Txt K mg A) : FnOk P w K mg base CX0 3 A.f_law_all_hold A.d_law_all_hold ["constraints", "point"] (sp_law_all_hold K) := by
  have G_law_holds := ok_law_holds (P := P) (w := w) (base := base) T
  refine T.F_law_all_hold.ok sc_law_all_hold (fun vs H Q E h => ?_) (fun cdv A' outer s H vs Q E hr h => ?_)
  · obtain ⟨l, b, p, rs, rfl, _⟩ := h
    rfl
  · obtain ⟨l, b, p, rs, rfl, hL, hn, hR, q⟩ := h
    refine ⟨_, (pss_cons (ps_for PassesOwn.never rfl (pi_list (pv 0)) (pg_name (i := 2) sc_law_all_hold.nd rfl (Or.inl rfl)) 
      (pss_one (ps_if (pt_not (pt_val (pe_call G_law_holds hr (by rfl) T.g_law_holds T.F_law_holds.kp T.B_law_holds .nil pass0 (pa_cons (pv 2) (pa_cons (pv 1) pa_nil))))) 
        (pss_one (ps_ret pe_bl)) pss_nil))) 
    (pss_one (ps_ret pe_bl))), ?_⟩
    walk_at "wp"
    refine ⟨⟨_, hL⟩, ?_⟩
    refine loop_it (walk_list (xs := rs.map fun r => V.ref r.t)) (fun i σ H' => Same H H' ∧ (rs.take i).all (rcv p) = true ∧ ∃ v, σ = [some (V.ref l), some (V.ref b), v]) ⟨Same.refl _, rfl, _, rfl⟩ (fun i σ H' _ p => p.1.seq hL) ?_ ?_
    · rintro i x σ H1 H2 hi ⟨s1, ha, v, rfl⟩ ⟨rfl, e⟩
      rw [List.length_map] at hi
      rw [List.getElem?_map, List.getElem?_eq_getElem hi] at e
      cases e
      have ok := (hR _ (List.getElem_mem hi)).same s1
      walk_at "wp"
      refine ⟨_, _, _, _, _, _, _, rfl, ok.ht, ok.ok, ok.ex, fun H3 s3 => ?_⟩
      walk_at "wp"
      have e2 : (rs.take (i + 1)).all (rcv p) = rcv p rs[i] := by
        rw [List.take_succ_eq_append_getElem hi, List.all_append, ha]
        simp
      cases hv : rcv p rs[i] with
      | true =>
        rw [show rs[i].k.holds (dot rs[i].c p + rs[i].d) = true from hv]
        exact ⟨s1.trans s3, by rw [e2, hv], _, rfl⟩
      | false =>
        rw [show rs[i].k.holds (dot rs[i].c p + rs[i].d) = false from hv]
        have e3 : rs.all (rcv p) = false := by
          rw [List.all_eq_false]
          exact ⟨_, List.getElem_mem hi, by rw [hv]; simp⟩
        rw [e3] at q
        exact q _ (s1.trans s3)
    · rintro σ H1 ⟨s1, ha, v, rfl⟩
      rw [List.length_map, List.take_length] at ha
      rw [ha] at q
      walk_at "wp"
      exact q _ s1
theorem ok_add (T : Txt K mg A) : FnOk P w K mg base CX0 1 A.f_add A.d_add ["one", "other"] (sp_add K) := by
  refine T.F_add.ok sc_add (fun vs H Q E h => ?_) (fun cdv A' outer s H vs Q E hr h => ?_)
  · obtain ⟨a, b, xs, ys, rfl, _⟩ := h
    rfl
  · obtain ⟨a, b, xs, ys, rfl, hX, hY, hl, hn, q⟩ := h
    refine ⟨_, (pss_one (ps_ret (pe_callTy call_tuple_of (by rfl) T.b_tuple (by decide +kernel) (pa_cons (pe_lc (own := [("a", 2), ("b", 3)]) (g := (gTup K 2 (gCons (gName 2) (gCons (gName 3) gNil)))) (by rfl) sc_add.nd (RZ.pi_zipA (by rfl) T.b_zip (pa_cons (pv 0) (pa_cons (pv 1) pa_nil))) (blkOk_by (own := [("a", 2), ("b", 3)]) (N := ["one", "other", "a", "b"]) (sc := defScope s_add) (by decide +kernel)) (fun _ _ _ _ _ => (pg_tup rfl (pgs_cons (pg_name (i := 2) sc_add.nd rfl (Or.inl rfl) (Or.inr rfl)) (pgs_cons (pg_name (i := 3) sc_add.nd rfl (Or.inl rfl) (Or.inr rfl)) pgs_nil)))) (fun _ _ _ _ _ => pts_nil) (fun _ _ _ _ _ => (pe_op op_add (pv 2) (pv 3)))) pa_nil)))), ?_⟩
    walk_at "wp"
    refine ⟨_, _, .inr ⟨hX, hY, fun D hD => ?_⟩⟩
    refine lc_ys (walk_zipT (n := ys.length) (by rw [List.length_map, List.length_map, hl]; omega)) ((List.zipWith (· + ·) xs ys).map V.int) hD (by omega) (by rw [List.length_map, List.length_zipWith, hl]; omega) (fun H' s' => ⟨sameT s' hX, sameT s' hY⟩) ypair_same (fun i x y H1 H2 R hi hy s1 yy k => ?_) (fun H' s' e => ?_)
    · obtain ⟨t, x, z, rfl, nt, rfl, e1, e2⟩ := yy
      have hi' : i < xs.length := by omega
      rw [List.getElem?_map, List.getElem?_zipWith, List.getElem?_eq_getElem hi, List.getElem?_eq_getElem hi'] at hy
      dsimp only at e1 e2
      rw [List.getElem?_map, List.getElem?_eq_getElem hi'] at e1
      rw [List.getElem?_map, List.getElem?_eq_getElem hi] at e2
      cases e1
      cases e2
      cases hy
      walk_at "wp"
      refine ⟨_, .inl (.inl upd_same), ?_⟩
      walk_at "wp"
      exact k _ (Same.refl _)
    · exact ⟨_, .inl ⟨SqL.of e, fun t nt => q _ _ (same_upd2 s' (s'.free nt)) upd_same⟩⟩
theorem ok_multiply (T : Txt K mg A) : FnOk P w K mg base CX0 1 A.f_multiply A.d_multiply ["factor", "expression"] (sp_multiply K) := by
  refine T.F_multiply.ok sc_multiply (fun vs H Q E h => ?_) (fun cdv A' outer s H vs Q E hr h => ?_)
  · obtain ⟨f, a, xs, rfl, _⟩ := h
    rfl
  · obtain ⟨f, a, xs, rfl, hX, hn, hf, hx, q⟩ := h
    refine ⟨_, (pss_one (ps_ret (pe_callTy call_tuple_of (by rfl) T.b_tuple (by decide +kernel) (pa_cons (pe_lc (own := [("number", 2)]) (by rfl) sc_multiply.nd (pi_tup (pv 1)) (blkOk_by (own := [("number", 2)]) (N := ["factor", "expression", "number"]) (sc := defScope s_multiply) (by decide +kernel)) (fun _ _ _ _ _ => (pg_name (i := 2) sc_multiply.nd rfl (Or.inl rfl) (Or.inr rfl))) (fun _ _ _ _ _ => pts_nil) (fun _ _ _ _ _ => (pe_op op_mulX (pv 0) (pv 2)))) pa_nil)))), ?_⟩
    walk_at "wp"
    refine ⟨⟨_, hX⟩, fun D hD => ?_⟩
    refine lc_ys (walk_tup (xs := xs.map V.int)) ((xs.map (f * ·)).map V.int) hD (by rw [List.length_map]; omega) (by rw [List.length_map, List.length_map, List.length_map]) (fun H' s' => sameT s' hX) yat_same (fun i x y H1 H2 R hi hy s1 yy k => ?_) (fun H' s' e => ?_)
    · obtain ⟨rfl, e⟩ := yat_at yy
      rw [List.length_map] at hi
      rw [List.getElem?_map, List.getElem?_map, List.getElem?_eq_getElem hi] at hy
      rw [List.getElem?_map, List.getElem?_eq_getElem hi] at e
      cases e
      cases hy
      walk_at "wp"
      exact ⟨⟨_, _, hf, hx _ (List.getElem_mem hi), by decide⟩, k _ (Same.refl _)⟩
    · exact ⟨_, .inl ⟨SqL.of e, fun t nt => q _ _ (same_upd2 s' (s'.free nt)) upd_same⟩⟩
theorem ok_law_numbers (T : Txt K mg A) : FnOk P w K mg base CX0 2 A.f_law_numbers A.d_law_numbers ["script", "first", "count"] (sp_law_numbers K) := by
  have G_law_cell := ok_law_cell (P := P) (w := w) (base := base) T
  refine T.F_law_numbers.ok sc_law_numbers (fun vs H Q E h => ?_) (fun cdv A' outer s H vs Q E hr h => ?_)
  · obtain ⟨l, ns, first, count, rfl, _⟩ := h
    rfl
  · obtain ⟨l, ns, first, count, rfl, hL, hn, q⟩ := h
    refine ⟨_, (pss_one (ps_ret (pe_callTy call_tuple_of (by rfl) T.b_tuple (by decide +kernel) (pa_cons (pe_lc (own := [("k", 3)]) (by rfl) sc_law_numbers.nd (pi_range1 (by rfl) T.b_range (pa_cons (pv 2) pa_nil)) (blkOk_by (own := [("k", 3)]) (N := ["script", "first", "count", "k"]) (sc := defScope s_law_numbers) (by decide +kernel)) (fun _ _ _ _ _ => (pg_name (i := 3) sc_law_numbers.nd rfl (Or.inl rfl) (Or.inr rfl))) (fun _ _ _ _ _ => pts_nil) (fun _ _ _ _ _ => (pe_call G_law_cell hr (by rfl) T.g_law_cell T.F_law_cell.kp T.B_law_cell .nil pass0 (pa_cons (pv 0) (pa_cons (pe_op op_add (pv 1) (pv 3)) pa_nil))))) pa_nil)))), ?_⟩
    walk_at "wp"
    refine ⟨by omega, by omega, fun D hD => ?_⟩
    refine lc_ys (walk_range0 (n := count)) ((cellsOf ns first count).map V.int) hD (by omega) (by rw [List.length_map, cellsOf, List.length_map, List.length_range]) (fun H' s' => trivial) (fun i H x H' e => by rw [e.1]; exact Same.refl _) (fun i x y H1 H2 R hi hy s1 yy k => ?_) (fun H' s' e => ?_)
    · obtain ⟨rfl, rfl⟩ := yy
      rw [cellsOf, List.map_map, List.getElem?_map, List.getElem?_range hi] at hy
      cases hy
      walk_at "wp"
      exact ⟨l, ns, first + i, by rw [Int.natCast_add], s1.seq hL, k _ (Same.refl _)⟩
    · exact ⟨_, .inl ⟨SqL.of e, fun t nt => q _ _ (same_upd2 s' (s'.free nt)) upd_same⟩⟩
theorem ok_law_constraint (T : Txt K mg A) : FnOk P w K mg base CX0 2 A.f_law_constraint A.d_law_constraint ["script", "first", "expression"] (sp_law_constraint K) := by
  have G_law_cell := ok_law_cell (P := P) (w := w) (base := base) T
  refine T.F_law_constraint.ok sc_law_constraint (fun vs H Q E h => ?_) (fun cdv A' outer s H vs Q E hr h => ?_)
  · obtain ⟨l, ns, first, e, rfl, _⟩ := h
    rfl
  · obtain ⟨l, ns, first, e, rfl, hL, q⟩ := h
    refine ⟨_, (pss_cons (ps_set (i := 3) sc_law_constraint.nd rfl (Or.inl rfl) (pe_op op_mod (pe_call G_law_cell hr (by rfl) T.g_law_cell T.F_law_cell.kp T.B_law_cell .nil pass0 (pa_cons (pv 0) (pa_cons (pv 1) pa_nil))) pe_int)) 
    (pss_cons (ps_if (pt_cmpR op_eq (pv 3) pe_int (nomark _)) 
      (pss_one (ps_ret (pe_tup (pa_cons pe_str (pa_cons (pv 2) pa_nil))))) pss_nil) 
    (pss_cons (ps_if (pt_cmpR op_eq (pv 3) pe_int (nomark _)) 
      (pss_one (ps_ret (pe_tup (pa_cons pe_str (pa_cons (pv 2) pa_nil))))) pss_nil) 
    (pss_one (ps_ret (pe_tup (pa_cons pe_str (pa_cons (pe_op op_add pe_int (pe_op op_mod (pe_op op_fdiv (pe_call G_law_cell hr (by rfl) T.g_law_cell T.F_law_cell.kp T.B_law_cell .nil pass0 (pa_cons (pv 0) (pa_cons (pv 1) pa_nil))) pe_int) pe_int)) (pa_cons (pv 2) pa_nil))))))))), ?_⟩
    walk_at "wp"
    refine ⟨l, ns, first, rfl, hL, ?_⟩
    walk_at "wp"
    refine ⟨by decide, ?_⟩
    have f1 : 2 ≤ sizeLine := by decide
    have f2 : 3 ≤ sizeLine := by decide
    by_cases h0 : cellOf ns first % 3 = 0
    · rw [if_pos (decide_eq_true h0)]
      exact ⟨f1, fun t nt => q _ _ .ge (same_upd nt) upd_same trivial⟩
    · rw [if_neg (by rw [decide_eq_true_eq]; exact h0)]
      by_cases h1 : cellOf ns first % 3 = 1
      · rw [if_pos (decide_eq_true h1)]
        exact ⟨f1, fun t nt => q _ _ .eq (same_upd nt) upd_same trivial⟩
      · rw [if_neg (by rw [decide_eq_true_eq]; exact h1)]
        refine ⟨l, ns, first, rfl, hL, ?_⟩
        walk_at "wp"
        exact ⟨⟨by decide, by decide⟩, by decide, f2, fun t nt => q _ _ (.div _) (same_upd nt) upd_same (by show 1 ≤ 1 + _; omega)⟩
theorem ok_law_is_integer (T : Txt K mg A) : FnOk P w K mg base CX0 1 A.f_law_is_integer A.d_law_is_integer ["actual"] (sp_law_is_integer K) := by
  refine T.F_law_is_integer.ok sc_law_is_integer (fun vs H Q E h => ?_) (fun cdv A' outer s H vs Q E hr h => ?_)
  · obtain ⟨i, rfl, _⟩ := h
    rfl
  · obtain ⟨i, rfl, q⟩ := h
    refine ⟨_, (pss_one (ps_ret (pe_and (pe_callB call_isi (by rfl) T.b_isinstance (by decide +kernel) (pa_cons (pv 0) (pa_cons (pe_bltn (v := .ty "int") (by rfl) T.b_int (by decide +kernel) rfl) pa_nil))) (pe_one (pe_not (pe_callB call_isi (by rfl) T.b_isinstance (by decide +kernel) (pa_cons (pv 0) (pa_cons (pe_bltn (v := .ty "bool") (by rfl) T.b_bool (by decide +kernel) rfl) pa_nil)))))))), ?_⟩
    walk_at "wp"
    refine isi ty_int (r := true) (by decide +kernel) ?_
    walk_at "wp"
    refine isi ty_int (r := false) (by decide +kernel) ?_
    walk_at "wp"
    exact q
theorem ok_law_is_tuple_of_integers (T : Txt K mg A) : FnOk P w K mg base CX0 2 A.f_law_is_tuple_of_integers A.d_law_is_tuple_of_integers ["actual"] (sp_law_is_tuple_of_integers K) := by
  have G_law_is_integer := ok_law_is_integer (P := P) (w := w) (base := base) T
  refine T.F_law_is_tuple_of_integers.ok sc_law_is_tuple_of_integers (fun vs H Q E h => ?_) (fun cdv A' outer s H vs Q E hr h => ?_)
  · obtain ⟨a, xs, rfl, _⟩ := h
    rfl
  · obtain ⟨a, xs, rfl, hX, q⟩ := h
    refine ⟨_, (pss_cons (ps_if (pt_not (pt_val (pe_callB call_isi (by rfl) T.b_isinstance (by decide +kernel) (pa_cons (pv 0) (pa_cons (pe_bltn (v := .ty "tuple") (by rfl) T.b_tuple (by decide +kernel) rfl) pa_nil))))) 
      (pss_one (ps_ret pe_bl)) pss_nil) 
    (pss_cons (ps_for PassesOwn.never rfl (pi_tup (pv 0)) (pg_name (i := 1) sc_law_is_tuple_of_integers.nd rfl (Or.inl rfl)) 
      (pss_one (ps_if (pt_not (pt_val (pe_call G_law_is_integer hr (by rfl) T.g_law_is_integer T.F_law_is_integer.kp T.B_law_is_integer .nil pass0 (pa_cons (pv 1) pa_nil)))) 
        (pss_one (ps_ret pe_bl)) pss_nil))) 
    (pss_one (ps_ret pe_bl)))), ?_⟩
    walk_at "wp"
    refine isi (ty_tup hX) (r := true) (by decide +kernel) ?_
    walk_at "wp"
    refine ⟨⟨_, hX⟩, ?_⟩
    refine loop_it (walk_tup (xs := xs.map V.int)) (fun i σ H' => H' = H ∧ ∃ v, σ = [some (V.ref a), v]) ⟨rfl, _, rfl⟩ (fun i σ H' _ p => by rw [p.1]; exact hX) ?_ ?_
    · rintro i x σ H1 H2 hi ⟨rfl, v, rfl⟩ ⟨rfl, e⟩
      rw [List.length_map] at hi
      rw [List.getElem?_map, List.getElem?_eq_getElem hi] at e
      cases e
      walk_at "wp"
      refine ⟨_, rfl, ?_⟩
      walk_at "wp"
      exact ⟨_, rfl⟩
    · rintro σ H1 ⟨rfl, v, rfl⟩
      walk_at "wp"
      exact q
theorem ok_law_same (T : Txt K mg A) : FnOk P w K mg base CX0 2 A.f_law_same A.d_law_same ["actual", "expected"] (sp_law_same K) := by
  have G_law_is_integer := ok_law_is_integer (P := P) (w := w) (base := base) T
  refine T.F_law_same.ok sc_law_same (fun vs H Q E h => ?_) (fun cdv A' outer s H vs Q E hr h => ?_)
  · obtain ⟨x, rfl, _⟩ := h
    rfl
  · obtain ⟨x, rfl, hx, q⟩ := h
    refine ⟨_, (pss_cons (ps_if (pt_cmpR op_isN (pv 1) pe_non (nomark _)) 
      (pss_one (ps_ret (pe_cmpR op_isN (pv 0) pe_non (nomark _)))) pss_nil) 
    (pss_cons (ps_if (pt_val (pe_callB call_isi (by rfl) T.b_isinstance (by decide +kernel) (pa_cons (pv 1) (pa_cons (pe_bltn (v := .ty "bool") (by rfl) T.b_bool (by decide +kernel) rfl) pa_nil)))) 
      (pss_one (ps_ret (pe_and (pe_callB call_isi (by rfl) T.b_isinstance (by decide +kernel) (pa_cons (pv 0) (pa_cons (pe_bltn (v := .ty "bool") (by rfl) T.b_bool (by decide +kernel) rfl) pa_nil))) (pe_one (pe_cmpR op_eq (pv 0) (pv 1) (nomark _)))))) pss_nil) 
    (pss_cons (ps_if (pt_val (pe_callB call_isi (by rfl) T.b_isinstance (by decide +kernel) (pa_cons (pv 1) (pa_cons (pe_bltn (v := .ty "int") (by rfl) T.b_int (by decide +kernel) rfl) pa_nil)))) 
      (pss_one (ps_ret (pe_and (pe_call G_law_is_integer hr (by rfl) T.g_law_is_integer T.F_law_is_integer.kp T.B_law_is_integer .nil pass0 (pa_cons (pv 0) pa_nil)) (pe_one (pe_cmpR op_eq (pv 0) (pv 1) (nomark _)))))) pss_nil) 
    (pss_cons ps_never 
    (pss_cons ps_never 
    (pss_cons ps_never 
    (pss_cons ps_never 
    (pss_cons ps_never 
    (pss_one (ps_ret pe_bl)))))))))), ?_⟩
    walk_at "wp"
    rcases hx with ⟨i, rfl⟩ | ⟨b, rfl⟩
    · walk_at "wp"
      refine isi ty_int (r := false) (by decide +kernel) ?_
      walk_at "wp"
      refine isi ty_int (r := true) (by decide +kernel) ?_
      walk_at "wp"
      refine ⟨_, rfl, ?_⟩
      walk_at "wp"
      exact q
    · walk_at "wp"
      refine isi ty_bl (r := true) (by decide +kernel) ?_
      walk_at "wp"
      refine isi ty_bl (r := true) (by decide +kernel) ?_
      walk_at "wp"
      exact q
theorem sIx_m1 (n : Nat) : HT.sIx (n + 1) (n + 1) (some (-1)) = n := by
  show (if (-1 : Int) < 0 then ((-1 : Int) + ((n + 1 : Nat) : Int)).toNat else min (-1 : Int).toNat (n + 1)) = n
  rw [if_pos (by decide)]
  omega
theorem sqT_upd {K : PySem.W.Frag} {H : Hp} {p b : Addr} {o : HO} {xs ys : List V} (hp : H p = some (.lst xs)) (h : SqT K H b ys) : SqT K (upd H p o) b ys := by
  rcases h with (h | ⟨o, h⟩) | h
  · exact .inl (.inl (by rw [upd_ne (ne_of h hp (by intro z; cases z))]; exact h))
  · exact .inl (.inr ⟨o, by rw [upd_ne (ne_of h hp (by intro z; cases z))]; exact h⟩)
  · exact .inr h
theorem Ex.updL {K : PySem.W.Frag} {H : Hp} {a b l : Addr} {c p : List Int} {d : Int} {xs : List V} {o : HO} (x : Ex K H a b c d p) (hl : H l = some (.lst xs)) : Ex K (upd H l o) a b c d p :=
  ⟨sqT_upd hl x.ea, sqT_upd hl x.pb, x.len, x.sm, x.cs, x.ps⟩
theorem RcOk.updL {K : PySem.W.Frag} {H : Hp} {b l : Addr} {p : List Int} {r : Rc} {xs : List V} {o : HO} (x : RcOk K H b p r) (hl : H l = some (.lst xs)) : RcOk K (upd H l o) b p r := ⟨sqT_upd hl x.ht, x.ok, x.ex.updL hl⟩
def sp_law (K : PySem.W.Frag) : Sp := fun vs H Q _ => ∃ (a : Addr) (ns : List Int), vs = [.ref a] ∧ SqL K H a (ns.map V.int) ∧ (∀ z ∈ ns, Builtin.Int.intBits z ≤ 1048576) ∧ ∀ H', Q (.bl true) H'
theorem sp_law_of {K : PySem.W.Frag} {H : Hp} {a : Addr} {ns : List Int} (_ : ns.length ≤ 63) (hb : ∀ z ∈ ns, Builtin.Int.intBits z ≤ 1048576) (_ : Only H) (hS : SqL K H a (ns.map V.int)) : sp_law K [.ref a] H (fun v _ => v = .bl true) fun _ _ _ => False :=
  ⟨a, ns, rfl, hS, hb, fun _ => rfl⟩
theorem sz_cell {ns : List Int} (hb : ∀ z ∈ ns, Builtin.Int.intBits z ≤ 1048576) (j : Nat) : Sz 1048577 (cellOf ns j) := by
  unfold L2.cellOf
  by_cases h : j < ns.length
  · exact Sz.bits (hb _ (memD h))
  · rw [List.getD_eq_getElem?_getD, List.getElem?_eq_none (by omega)]
    exact Sz.zero _
theorem sz_cells {ns : List Int} (hb : ∀ z ∈ ns, Builtin.Int.intBits z ≤ 1048576) (f n : Nat) : ∀ x ∈ cellsOf ns f n, Sz 1048577 x := by
  intro x hx
  obtain ⟨k, _, rfl⟩ := List.mem_map.mp hx
  exact sz_cell hb _
theorem cells_len (ns : List Int) (f n : Nat) : (cellsOf ns f n).length = n := by rw [cellsOf, List.length_map, List.length_range]
theorem cells_succ (ns : List Int) (f n : Nat) : cellsOf ns f (n + 1) = cellsOf ns f n ++ [cellOf ns (f + n)] := by
  rw [cellsOf, List.range_succ, List.map_append]
  rfl
theorem dot_sz {a b : Nat} : ∀ (c p : List Int), (∀ x ∈ c, Sz a x) → (∀ y ∈ p, Sz b y) → Sz (a + b + c.length) (dot c p)
  | [], _, _, _ => Sz.zero _
  | _ :: _, [], _, _ => Sz.zero _
  | x :: c, y :: p, h, k => by
    rw [dot]
    have h1 := (h x List.mem_cons_self).mul (k y List.mem_cons_self)
    have h2 := dot_sz c p (fun z hz => h z (List.mem_cons_of_mem _ hz)) (fun z hz => k z (List.mem_cons_of_mem _ hz))
    exact (h1.mono (Nat.le_add_right _ c.length)).add h2
theorem dot_add : ∀ (c e p : List Int), c.length = p.length → e.length = p.length → dot (List.zipWith (· + ·) c e) p = dot c p + dot e p
  | [], [], [], _, _ => rfl
  | x :: c, y :: e, z :: p, h, k => by
    show (x + y) * z + dot (List.zipWith (· + ·) c e) p = (x * z + dot c p) + (y * z + dot e p)
    rw [dot_add c e p (by simpa using h) (by simpa using k), Int.add_mul]
    omega
  | [], _ :: _, [], _, k => by simp at k
  | [], _, _ :: _, h, _ => by simp at h
  | _ :: _, _, [], h, _ => by simp at h
  | _ :: _, [], _ :: _, _, k => by simp at k
theorem dot_mul (f : Int) : ∀ (c p : List Int), dot (c.map (f * ·)) p = f * dot c p
  | [], _ => by simp [dot]
  | x :: c, [] => by simp [dot]
  | x :: c, y :: p => by
    show (f * x) * y + dot (c.map (f * ·)) p = f * (x * y + dot c p)
    rw [dot_mul f c p, Int.mul_add, Int.mul_assoc]
theorem ok_law (T : Txt K mg A) : FnOk P w K mg base CX0 4 A.f_law A.d_law ["script"] (sp_law K) := by
  have G_law_numbers := ok_law_numbers (P := P) (w := w) (base := base) T
  have G_law_cell := ok_law_cell (P := P) (w := w) (base := base) T
  have G_add := ok_add (P := P) (w := w) (base := base) T
  have G_multiply := ok_multiply (P := P) (w := w) (base := base) T
  have G_law_same := ok_law_same (P := P) (w := w) (base := base) T
  have G_law_value := ok_law_value (P := P) (w := w) (base := base) T
  have G_law_constraint := ok_law_constraint (P := P) (w := w) (base := base) T
  have G_all_hold := ok_all_hold (P := P) (w := w) (base := base) T
  have G_law_all_hold := ok_law_all_hold (P := P) (w := w) (base := base) T
  have G_value_at := ok_value_at (P := P) (w := w) (base := base) T
  have G_law_is_tuple_of_integers := ok_law_is_tuple_of_integers (P := P) (w := w) (base := base) T
  have G_holds := ok_holds (P := P) (w := w) (base := base) T
  have G_law_holds := ok_law_holds (P := P) (w := w) (base := base) T
  refine T.F_law.ok sc_law (fun vs H Q E h => ?_) (fun cdv A' outer s H vs Q E hr h => ?_)
  · obtain ⟨a, ns, rfl, _⟩ := h
    rfl
  · obtain ⟨a, ns, rfl, hS, hb, q⟩ := h
    have ⟨R, hR, kR⟩ : ∃ R, PSs (cxOf CX0 P w K mg base ["script", "count", "one", "other", "point", "factor", "total", "multiple", "listed", "k", "expression", "constraint"] "law" (defScope s_law) A.f_law cdv A' outer s H E).nox ((defBody s_law).drop 6) R ∧
        ∀ σ H1, (∃ (n : Nat) (o1 o2 pt : Addr) (e1 : Int), n ≤ 5 ∧ σ = [some (V.ref a), some (V.int (n : Int)), some (V.ref o1), some (V.ref o2), some (V.ref pt), some (V.int (cellOf ns 18)), none, none, none, none, none, none] ∧ Same H H1 ∧
          Ex K H1 o1 pt (cellsOf ns 1 n) e1 (cellsOf ns 13 n) ∧ Ex K H1 o2 pt (cellsOf ns 7 n) (cellOf ns (7 + n)) (cellsOf ns 13 n)) → R { nx := fun _ H' => Q .non H', rt := Q } σ H1 := by
      refine ⟨_, (pss_cons (ps_if (pt_not (pt_val (pe_call G_law_same (hr.mono (by decide)) (by rfl) T.g_law_same T.F_law_same.kp T.B_law_same .nil pass0 (pa_cons (pe_call G_value_at (hr.mono (by decide)) (by rfl) T.g_value_at T.F_value_at.kp T.B_value_at .nil pass0 (pa_cons (pv 2) (pa_cons (pv 4) pa_nil))) (pa_cons (pe_call G_law_value (hr.mono (by decide)) (by rfl) T.g_law_value T.F_law_value.kp T.B_law_value .nil pass0 (pa_cons (pv 2) (pa_cons (pv 4) pa_nil))) pa_nil))))) 
      (pss_one (ps_ret pe_bl)) pss_nil) 
    (pss_cons (ps_set (i := 6) sc_law.nd rfl (Or.inl rfl) (pe_call G_add (hr.mono (by decide)) (by rfl) T.g_add T.F_add.kp T.B_add .nil pass0 (pa_cons (pv 2) (pa_cons (pv 3) pa_nil)))) 
    (pss_cons (ps_set (i := 7) sc_law.nd rfl (Or.inl rfl) (pe_call G_multiply (hr.mono (by decide)) (by rfl) T.g_multiply T.F_multiply.kp T.B_multiply .nil pass0 (pa_cons (pv 5) (pa_cons (pv 3) pa_nil)))) 
    (pss_cons (ps_if (PW.pt (pw_or (pt_not (pt_val (pe_call G_law_is_tuple_of_integers (hr.mono (by decide)) (by rfl) T.g_law_is_tuple_of_integers T.F_law_is_tuple_of_integers.kp T.B_law_is_tuple_of_integers .nil pass0 (pa_cons (pv 6) pa_nil)))) (pw_or1 (pt_cmpR op_ne (pe_callB call_len_seq (by rfl) T.b_len (by decide +kernel) (pa_cons (pv 6) pa_nil)) (pe_op op_add (pv 1) pe_int) (nomark _))))) 
      (pss_one (ps_ret pe_bl)) pss_nil) 
    (pss_cons (ps_if (PW.pt (pw_or (pt_not (pt_val (pe_call G_law_is_tuple_of_integers (hr.mono (by decide)) (by rfl) T.g_law_is_tuple_of_integers T.F_law_is_tuple_of_integers.kp T.B_law_is_tuple_of_integers .nil pass0 (pa_cons (pv 7) pa_nil)))) (pw_or1 (pt_cmpR op_ne (pe_callB call_len_seq (by rfl) T.b_len (by decide +kernel) (pa_cons (pv 7) pa_nil)) (pe_op op_add (pv 1) pe_int) (nomark _))))) 
      (pss_one (ps_ret pe_bl)) pss_nil) 
    (pss_cons (ps_if (pt_cmpR op_ne (pe_call G_law_value (hr.mono (by decide)) (by rfl) T.g_law_value T.F_law_value.kp T.B_law_value .nil pass0 (pa_cons (pv 6) (pa_cons (pv 4) pa_nil))) (pe_op op_add (pe_call G_law_value (hr.mono (by decide)) (by rfl) T.g_law_value T.F_law_value.kp T.B_law_value .nil pass0 (pa_cons (pv 2) (pa_cons (pv 4) pa_nil))) (pe_call G_law_value (hr.mono (by decide)) (by rfl) T.g_law_value T.F_law_value.kp T.B_law_value .nil pass0 (pa_cons (pv 3) (pa_cons (pv 4) pa_nil)))) (nomark _)) 
      (pss_one (ps_ret pe_bl)) pss_nil) 
    (pss_cons (ps_if (pt_cmpR op_ne (pe_call G_law_value (hr.mono (by decide)) (by rfl) T.g_law_value T.F_law_value.kp T.B_law_value .nil pass0 (pa_cons (pv 7) (pa_cons (pv 4) pa_nil))) (pe_op op_mulX (pv 5) (pe_call G_law_value (hr.mono (by decide)) (by rfl) T.g_law_value T.F_law_value.kp T.B_law_value .nil pass0 (pa_cons (pv 3) (pa_cons (pv 4) pa_nil)))) (nomark _)) 
      (pss_one (ps_ret pe_bl)) pss_nil) 
    (pss_cons (ps_set (i := 8) sc_law.nd rfl (Or.inl rfl) (pe_lst pa_nil)) 
    (pss_cons (ps_for PassesOwn.never rfl (pi_range1 (by rfl) T.b_range (pa_cons (pe_op op_mod (pe_call G_law_cell (hr.mono (by decide)) (by rfl) T.g_law_cell T.F_law_cell.kp T.B_law_cell .nil pass0 (pa_cons (pv 0) (pa_cons pe_int pa_nil))) pe_int) pa_nil)) (pg_name (i := 9) sc_law.nd rfl (Or.inl rfl)) 
      (pss_cons (ps_set (i := 10) sc_law.nd rfl (Or.inl rfl) (pv 2)) 
      (pss_cons (ps_if (pt_cmpR op_eq (pe_op op_mod (pe_op op_fdiv (pe_call G_law_cell (hr.mono (by decide)) (by rfl) T.g_law_cell T.F_law_cell.kp T.B_law_cell .nil pass0 (pa_cons (pv 0) (pa_cons (pe_op op_add pe_int (pv 9)) pa_nil))) pe_int) pe_int) pe_int (nomark _)) 
        (pss_one (ps_set (i := 10) sc_law.nd rfl (Or.inl rfl) (pv 3))) pss_nil) 
      (pss_cons (ps_set (i := 11) sc_law.nd rfl (Or.inl rfl) (pe_call G_law_constraint (hr.mono (by decide)) (by rfl) T.g_law_constraint T.F_law_constraint.kp T.B_law_constraint .nil pass0 (pa_cons (pv 0) (pa_cons (pe_op op_add pe_int (pv 9)) (pa_cons (pv 10) pa_nil))))) 
      (pss_cons (ps_expr (pe_bm PySem.F.plainAttrs_list PySem.F.slot_list_append PySem.F.type_list_append mt_append (pv 8) (pa_cons (pv 11) pa_nil))) 
      (pss_one (ps_if (pt_not (pt_val (pe_call G_law_same (hr.mono (by decide)) (by rfl) T.g_law_same T.F_law_same.kp T.B_law_same .nil pass0 (pa_cons (pe_call G_holds (hr.mono (by decide)) (by rfl) T.g_holds T.F_holds.kp T.B_holds .nil pass0 (pa_cons (pv 11) (pa_cons (pv 4) pa_nil))) (pa_cons (pe_call G_law_holds (hr.mono (by decide)) (by rfl) T.g_law_holds T.F_law_holds.kp T.B_law_holds .nil pass0 (pa_cons (pv 11) (pa_cons (pv 4) pa_nil))) pa_nil))))) 
        (pss_one (ps_ret pe_bl)) pss_nil))))))) 
    (pss_one (ps_ret (pe_call G_law_same (hr.mono (by decide)) (by rfl) T.g_law_same T.F_law_same.kp T.B_law_same .nil pass0 (pa_cons (pe_call G_all_hold hr (by rfl) T.g_all_hold T.F_all_hold.kp T.B_all_hold .nil pass0 (pa_cons (pe_callTy call_tuple_of (by rfl) T.b_tuple (by decide +kernel) (pa_cons (pv 8) pa_nil)) (pa_cons (pv 4) pa_nil))) (pa_cons (pe_call G_law_all_hold hr (by rfl) T.g_law_all_hold T.F_law_all_hold.kp T.B_law_all_hold .nil pass0 (pa_cons (pv 8) (pa_cons (pv 4) pa_nil))) pa_nil)))))))))))))), ?_⟩
      rintro σ H1 ⟨n, o1, o2, pt, e1, hn, rfl, s1, X1, X2⟩
      have sT : ∀ {H2 : Hp}, Same H1 H2 → True := fun _ => trivial
      walk_at "wp"
      refine ⟨_, _, _, _, _, rfl, X1, fun H2 s2 => ?_⟩
      refine ⟨_, _, _, _, _, rfl, X1.same s2, fun H3 s3 => ?_⟩
      refine ⟨_, rfl, .inl ⟨_, rfl⟩, ?_⟩
      walk_at "wp"
      have s03 := s2.trans s3
      refine ⟨_, _, _, _, rfl, (X1.same s03).ea, (X2.same s03).ea, by simp [cells_len], by simp [cells_len]; omega, fun H4 t4 s4 e4 => ?_⟩
      have s04 := s03.trans s4
      refine ⟨_, _, _, rfl, (X2.same s04).ea, by simp [cells_len]; omega, (sz_cell hb _).mono (by decide), ?_, fun H5 t5 s5 e5 => ?_⟩
      · intro x hx
        rcases List.mem_append.mp hx with hx | hx
        · exact (sz_cells hb _ _ _ hx).mono (by decide)
        · rw [List.mem_singleton.mp hx]
          exact (sz_cell hb _).mono (by decide)
      have s05 := s04.trans s5
      refine ⟨_, _, rfl, SqT.of (s5 _ _ e4), ?_⟩
      walk_at "wp"
      refine ⟨_, .inr (SqT.of (s5 _ _ e4)), ?_⟩
      rw [if_neg (by simp [cells_len])]
      refine ⟨_, _, rfl, SqT.of e5, ?_⟩
      walk_at "wp"
      refine ⟨_, .inr (SqT.of e5), ?_⟩
      rw [if_neg (by simp [cells_len])]
      have zs : ∀ (f : Nat) (x : Int), x ∈ cellsOf ns f n → Sz 1048577 x := fun f x hx => sz_cells hb _ _ _ hx
      have X5 : Ex K H5 t4 pt (List.zipWith (· + ·) (cellsOf ns 1 n) (cellsOf ns 7 n)) (e1 + cellOf ns (7 + n)) (cellsOf ns 13 n) := by
        refine ⟨?_, (X2.same s05).pb, by simp [cells_len], X1.sm, fun x hx => ?_, (X1.same s05).ps⟩
        · have e := s5 _ _ e4
          rw [List.zipWith_append (by simp [cells_len])] at e
          exact SqT.of e
        · obtain ⟨i, hi, rfl⟩ := List.getElem_of_mem hx
          rw [List.getElem_zipWith]
          exact ((zs _ _ (List.getElem_mem _)).add (zs _ _ (List.getElem_mem _))).mono (by decide)
      have X6 : Ex K H5 t5 pt ((cellsOf ns 7 n).map (cellOf ns 18 * ·)) (cellOf ns 18 * cellOf ns (7 + n)) (cellsOf ns 13 n) := by
        refine ⟨?_, (X2.same s05).pb, by simp [cells_len], X1.sm, fun x hx => ?_, (X1.same s05).ps⟩
        · have e := e5
          rw [List.map_append] at e
          exact SqT.of e
        · obtain ⟨y, hy, rfl⟩ := List.mem_map.mp hx
          exact ((sz_cell hb _).mul (zs _ _ hy)).mono (by decide)
      refine ⟨_, _, _, _, _, rfl, X5, fun H6 s6 => ?_⟩
      refine ⟨_, _, _, _, _, rfl, (X1.same s05).same s6, fun H7 s7 => ?_⟩
      refine ⟨_, _, _, _, _, rfl, ((X2.same s05).same s6).same s7, fun H8 s8 => ?_⟩
      have s08 := ((s05.trans s6).trans s7).trans s8
      have s58 := (s6.trans s7).trans s8
      walk_at "wp"
      rw [dot_add _ _ _ (by simp [cells_len]) (by simp [cells_len])]
      rw [if_neg (by simp; omega)]
      refine ⟨_, _, _, _, _, rfl, X6.same s58, fun H9 s9 => ?_⟩
      refine ⟨_, _, _, _, _, rfl, (X2.same s08).same s9, fun H10 s10 => ?_⟩
      have s010 := (s08.trans s9).trans s10
      walk_at "wp"
      refine ⟨⟨1048577, 1048577 + 1048577 + (cellsOf ns 7 n).length + 1, sz_cell hb _, (dot_sz _ _ (zs _) (zs _)).add ((sz_cell hb _).mono (by omega)), by rw [cells_len]; omega⟩, ?_⟩
      rw [dot_mul, ← Int.mul_add]
      walk_at "wp"
      refine ⟨Nat.zero_le _, fun lp np => ?_⟩
      have s1p : Same H (upd H10 lp (.lst [])) := (s1.trans s010).trans (same_upd np)
      refine ⟨a, ns, 19, rfl, s1p.seq hS, ?_⟩
      walk_at "wp"
      have m0 : 0 ≤ cellOf ns 19 % 5 := Int.emod_nonneg _ (by decide)
      have m1 : cellOf ns 19 % 5 < 5 := Int.emod_lt_of_pos _ (by decide)
      refine ⟨by decide, by omega, by omega, ?_⟩
      refine loop_it (walk_range0 (n := (cellOf ns 19 % 5).toNat)) (fun i σ H' => ∃ (rs : List Rc) (v9 v10 v11 : Option V), σ = [some (V.ref a), some (V.int (n : Int)), some (V.ref o1), some (V.ref o2), some (V.ref pt), some (V.int (cellOf ns 18)), some (V.ref t4), some (V.ref t5), some (V.ref lp), v9, v10, v11] ∧
        Same H10 H' ∧ H' lp = some (.lst (rs.map fun r => V.ref r.t)) ∧ rs.length ≤ i ∧ ∀ r ∈ rs, RcOk K H' pt (cellsOf ns 13 n) r) ⟨[], _, _, _, rfl, same_upd np, upd_same, Nat.le_refl _, fun r hr => by cases hr⟩ (fun _ _ _ _ _ => trivial) ?_ ?_
      · rintro i x σ H' H'' hi ⟨rs, v9, v10, v11, rfl, sm, ei, hl, hrs⟩ ⟨rfl, rfl⟩
        have s0i : Same H H'' := (s1.trans s010).trans sm
        have s10i : Same H1 H'' := s010.trans sm
        walk_at "wp"
        refine ⟨a, ns, 20 + i, by rw [Int.natCast_add]; rfl, s0i.seq hS, ?_⟩
        walk_at "wp"
        refine ⟨⟨by decide, by decide⟩, by decide, ?_⟩
        split
        · refine ⟨a, ns, 20 + i, _, by rw [Int.natCast_add]; rfl, s0i.seq hS, fun H3 t k s3 e3 hk => ?_⟩
          refine ⟨.inl ⟨rfl, _, SqL.of (s3 _ _ ei)⟩, _, s3 _ _ ei, small1000 (by rw [List.length_map]; omega), ?_⟩
          have Y : RcOk K (upd H3 lp (.lst (rs.map (fun r => V.ref r.t) ++ [V.ref t]))) pt (cellsOf ns 13 n) ⟨t, k, _, _, _⟩ :=
            ⟨sqT_upd (s3 _ _ ei) (SqT.of e3), hk, (((X2.same s10i).same s3).updL (s3 _ _ ei))⟩
          refine ⟨_, _, _, _, _, _, _, rfl, Y.ht, Y.ok, Y.ex, fun H4 s4 => ?_⟩
          refine ⟨_, _, _, _, _, _, _, rfl, (Y.same s4).ht, Y.ok, (Y.same s4).ex, fun H5 s5 => ?_⟩
          refine ⟨_, rfl, .inr ⟨_, rfl⟩, ?_⟩
          walk_at "wp"
          refine ⟨?_, rs ++ [⟨t, k, o2, cellsOf ns 7 n, cellOf ns (7 + n)⟩], ?_, ?_, ?_⟩
          · exact fun b o e => s5 _ _ (s4 _ _ (by rw [upd_ne (ne_of_none e np)]; exact s3 _ _ (sm _ _ e)))
          · rw [List.map_append]
            exact s5 _ _ (s4 _ _ upd_same)
          · rw [List.length_append, List.length_singleton]
            omega
          · intro r hr'
            rcases List.mem_append.mp hr' with hr' | hr'
            · exact ((((hrs _ hr').same s3).updL (s3 _ _ ei)).same s4).same s5
            · rw [List.mem_singleton.mp hr']
              exact (Y.same s4).same s5
        · refine ⟨a, ns, 20 + i, _, by rw [Int.natCast_add]; rfl, s0i.seq hS, fun H3 t k s3 e3 hk => ?_⟩
          refine ⟨.inl ⟨rfl, _, SqL.of (s3 _ _ ei)⟩, _, s3 _ _ ei, small1000 (by rw [List.length_map]; omega), ?_⟩
          have Y : RcOk K (upd H3 lp (.lst (rs.map (fun r => V.ref r.t) ++ [V.ref t]))) pt (cellsOf ns 13 n) ⟨t, k, _, _, _⟩ :=
            ⟨sqT_upd (s3 _ _ ei) (SqT.of e3), hk, (((X1.same s10i).same s3).updL (s3 _ _ ei))⟩
          refine ⟨_, _, _, _, _, _, _, rfl, Y.ht, Y.ok, Y.ex, fun H4 s4 => ?_⟩
          refine ⟨_, _, _, _, _, _, _, rfl, (Y.same s4).ht, Y.ok, (Y.same s4).ex, fun H5 s5 => ?_⟩
          refine ⟨_, rfl, .inr ⟨_, rfl⟩, ?_⟩
          walk_at "wp"
          refine ⟨?_, rs ++ [⟨t, k, o1, cellsOf ns 1 n, e1⟩], ?_, ?_, ?_⟩
          · exact fun b o e => s5 _ _ (s4 _ _ (by rw [upd_ne (ne_of_none e np)]; exact s3 _ _ (sm _ _ e)))
          · rw [List.map_append]
            exact s5 _ _ (s4 _ _ upd_same)
          · rw [List.length_append, List.length_singleton]
            omega
          · intro r hr'
            rcases List.mem_append.mp hr' with hr' | hr'
            · exact ((((hrs _ hr').same s3).updL (s3 _ _ ei)).same s4).same s5
            · rw [List.mem_singleton.mp hr']
              exact (Y.same s4).same s5
      · rintro σ H' ⟨rs, v9, v10, v11, rfl, sm, ei, hl, hrs⟩
        walk_at "wp"
        refine ⟨_, .inl ⟨SqL.of ei, fun t nt => ?_⟩⟩
        refine ⟨_, _, _, rs, rfl, SqT.of upd_same, by omega, fun r hr' => (hrs r hr').same (same_upd nt), fun H3 s3 => ?_⟩
        have s4 := (same_upd nt).trans s3
        refine ⟨_, _, _, rs, rfl, SqL.of (s4 _ _ ei), by omega, fun r hr' => (hrs r hr').same s4, fun H4 s5 => ?_⟩
        exact ⟨_, rfl, .inr ⟨_, rfl⟩, q _⟩
    refine ⟨_, (pss_cons (ps_set (i := 1) sc_law.nd rfl (Or.inl rfl) (pe_op op_mod (pe_call G_law_cell (hr.mono (by decide)) (by rfl) T.g_law_cell T.F_law_cell.kp T.B_law_cell .nil pass0 (pa_cons (pv 0) (pa_cons pe_int pa_nil))) pe_int)) 
    (pss_cons (ps_set (i := 2) sc_law.nd rfl (Or.inl rfl) (pe_call G_law_numbers (hr.mono (by decide)) (by rfl) T.g_law_numbers T.F_law_numbers.kp T.B_law_numbers .nil pass0 (pa_cons (pv 0) (pa_cons pe_int (pa_cons (pe_op op_add (pv 1) pe_int) pa_nil))))) 
    (pss_cons (ps_set (i := 3) sc_law.nd rfl (Or.inl rfl) (pe_call G_law_numbers (hr.mono (by decide)) (by rfl) T.g_law_numbers T.F_law_numbers.kp T.B_law_numbers .nil pass0 (pa_cons (pv 0) (pa_cons pe_int (pa_cons (pe_op op_add (pv 1) pe_int) pa_nil))))) 
    (pss_cons (ps_set (i := 4) sc_law.nd rfl (Or.inl rfl) (pe_call G_law_numbers (hr.mono (by decide)) (by rfl) T.g_law_numbers T.F_law_numbers.kp T.B_law_numbers .nil pass0 (pa_cons (pv 0) (pa_cons pe_int (pa_cons (pv 1) pa_nil))))) 
    (pss_cons (ps_set (i := 5) sc_law.nd rfl (Or.inl rfl) (pe_call G_law_cell (hr.mono (by decide)) (by rfl) T.g_law_cell T.F_law_cell.kp T.B_law_cell .nil pass0 (pa_cons (pv 0) (pa_cons pe_int pa_nil)))) 
    (pss_cons (ps_if (pt_cmpR op_eq (pe_op op_mod (pe_op op_fdiv (pe_call G_law_cell (hr.mono (by decide)) (by rfl) T.g_law_cell T.F_law_cell.kp T.B_law_cell .nil pass0 (pa_cons (pv 0) (pa_cons pe_int pa_nil))) pe_int) pe_int) pe_int (nomark _)) 
      (pss_one (ps_set (i := 2) sc_law.nd rfl (Or.inl rfl) (pe_op op_catA (pe_slice sl_tupA (pv 2) po_none (po_some (pe_un un_neg pe_int))) (pe_tup (pa_cons (pe_op op_sub (pe_ix ix_tup (pv 2) (pe_un un_neg pe_int) (fun _ _ => rfl)) (pe_call G_law_value (hr.mono (by decide)) (by rfl) T.g_law_value T.F_law_value.kp T.B_law_value .nil pass0 (pa_cons (pv 2) (pa_cons (pv 4) pa_nil)))) pa_nil))))) pss_nil) hR)))))), ?_⟩
    walk_at "wp"
    refine ⟨a, ns, 0, rfl, hS, ?_⟩
    walk_at "wp"
    have m0 : 0 ≤ cellOf ns 0 % 6 := Int.emod_nonneg _ (by decide)
    have m1 : cellOf ns 0 % 6 < 6 := Int.emod_lt_of_pos _ (by decide)
    obtain ⟨n, hn⟩ : ∃ n : Nat, cellOf ns 0 % 6 = (n : Int) := ⟨(cellOf ns 0 % 6).toNat, by omega⟩
    have hn5 : n ≤ 5 := by omega
    rw [hn]
    refine ⟨by decide, a, ns, 1, n + 1, by rw [Int.natCast_add]; rfl, hS, by omega, fun H1 o1 s1 e1 => ?_⟩
    refine ⟨a, ns, 7, n + 1, by rw [Int.natCast_add]; rfl, s1.seq hS, by omega, fun H2 o2 s2 e2 => ?_⟩
    refine ⟨a, ns, 13, n, rfl, (s1.trans s2).seq hS, by omega, fun H3 pt s3 e3 => ?_⟩
    have s03 := (s1.trans s2).trans s3
    refine ⟨a, ns, 18, rfl, s03.seq hS, ?_⟩
    refine ⟨a, ns, 0, rfl, s03.seq hS, ?_⟩
    walk_at "wp"
    rw [cells_succ] at e1 e2
    have zs : ∀ (f : Nat) (x : Int), x ∈ cellsOf ns f n → Sz 30000000 x := fun f x hx => (sz_cells hb _ _ _ hx).mono (by decide)
    have X1 : Ex K H3 o1 pt (cellsOf ns 1 n) (cellOf ns (1 + n)) (cellsOf ns 13 n) := ⟨SqT.of (s3 _ _ (s2 _ _ e1)), SqT.of e3, by simp [cells_len], by rw [cells_len]; omega, zs _, zs _⟩
    have X2 : Ex K H3 o2 pt (cellsOf ns 7 n) (cellOf ns (7 + n)) (cellsOf ns 13 n) := ⟨SqT.of (s3 _ _ e2), SqT.of e3, by simp [cells_len], by rw [cells_len]; omega, zs _, zs _⟩
    refine ⟨⟨by decide, by decide⟩, by decide, ?_⟩
    split
    · refine ⟨o1, _, rfl, X1.ea, fun z => ?_, fun _ p4 n4 => ?_⟩
      · exfalso
        have z2 := z.2
        rw [List.length_map, List.length_append, List.length_singleton, cells_len] at z2
        rw [sIx_m1] at z2
        omega
      · have ec : cutV ((cellsOf ns 1 n ++ [cellOf ns (1 + n)]).map V.int) none (some (-1)) = (cellsOf ns 1 n).map V.int := by
          unfold cutV
          rw [HT.sIx_none, List.drop_zero, List.length_map, List.length_append, List.length_singleton, cells_len]
          rw [sIx_m1]
          rw [List.map_append, Nat.sub_zero, List.take_append_of_le_length (by rw [List.length_map, cells_len]; exact Nat.le_refl _), List.take_of_length_le (by rw [List.length_map, cells_len]; exact Nat.le_refl _)]
        rw [ec]
        have s4 := same_upd (o := .tup ((cellsOf ns 1 n).map V.int)) n4
        refine ⟨_, sameT s4 X1.ea, _, lastE, ?_⟩
        refine ⟨_, _, _, _, _, rfl, X1.same s4, fun H5 s5 => ?_⟩
        walk_at "wp"
        refine ⟨by decide, fun p5 n5 => ?_⟩
        have s6 := same_upd (o := .tup [V.int (cellOf ns (1 + n) - (dot (cellsOf ns 1 n) (cellsOf ns 13 n) + cellOf ns (1 + n)))]) n5
        refine ⟨_, _, _, _, rfl, rfl, SqT.of (s6 _ _ (s5 _ _ upd_same)), SqT.of upd_same, ?_, fun z => ?_, fun _ z => by simp at z, fun _ _ p7 n7 => ?_⟩
        · rw [List.length_map, cells_len]
          exact Nat.le_of_lt (small1000 (by simp; omega))
        · have n0 : n = 0 := by
            have e := congrArg List.length z
            rw [List.length_map, cells_len] at e
            exact e
          refine kR _ _ ⟨n, p5, o2, pt, (cellOf ns (1 + n) - (dot (cellsOf ns 1 n) (cellsOf ns 13 n) + cellOf ns (1 + n))), hn5, rfl, ((s03.trans s4).trans s5).trans s6, ?_, ((X2.same s4).same s5).same s6⟩
          subst n0
          exact ⟨SqT.of upd_same, (((X1.same s4).same s5).same s6).pb, rfl, Nat.zero_le _, zs _, zs _⟩
        · have s8 := same_upd (o := .tup ((cellsOf ns 1 n).map V.int ++ [V.int (cellOf ns (1 + n) - (dot (cellsOf ns 1 n) (cellsOf ns 13 n) + cellOf ns (1 + n)))])) n7
          refine kR _ _ ⟨n, p7, o2, pt, (cellOf ns (1 + n) - (dot (cellsOf ns 1 n) (cellsOf ns 13 n) + cellOf ns (1 + n))), hn5, rfl, (((s03.trans s4).trans s5).trans s6).trans s8, ?_, (((X2.same s4).same s5).same s6).same s8⟩
          exact ⟨by rw [List.map_append]; exact SqT.of upd_same, ((((X1.same s4).same s5).same s6).same s8).pb, by simp [cells_len], by rw [cells_len]; omega, zs _, zs _⟩
    · exact kR _ _ ⟨n, o1, o2, pt, _, hn5, rfl, s03, X1, X2⟩
theorem all_mk {K : PySem.W.Frag} {h : Heap} {mg : Str → Option Value} {fa : Addr} (X : K.In h) (G : h.Ns mainGlobals mg) (hfa : mg "law" = some (.ref fa))
    {x_value_at : Addr} {od_value_at an_value_at : Option Addr} {sl_value_at : Array (Option Value)} {oc_value_at kV_value_at dc_value_at pm_value_at cd_value_at ct_value_at : Value}
    {x_holds : Addr} {od_holds an_holds : Option Addr} {sl_holds : Array (Option Value)} {oc_holds kV_holds dc_holds pm_holds cd_holds ct_holds : Value}
    {x_all_hold : Addr} {od_all_hold an_all_hold : Option Addr} {sl_all_hold : Array (Option Value)} {oc_all_hold kV_all_hold dc_all_hold pm_all_hold cd_all_hold ct_all_hold : Value}
    {x_add : Addr} {od_add an_add : Option Addr} {sl_add : Array (Option Value)} {oc_add kV_add dc_add pm_add cd_add ct_add : Value}
    {x_multiply : Addr} {od_multiply an_multiply : Option Addr} {sl_multiply : Array (Option Value)} {oc_multiply kV_multiply dc_multiply pm_multiply cd_multiply ct_multiply : Value}
    {x_law_cell : Addr} {od_law_cell an_law_cell : Option Addr} {sl_law_cell : Array (Option Value)} {oc_law_cell kV_law_cell dc_law_cell pm_law_cell cd_law_cell ct_law_cell : Value}
    {x_law_value : Addr} {od_law_value an_law_value : Option Addr} {sl_law_value : Array (Option Value)} {oc_law_value kV_law_value dc_law_value pm_law_value cd_law_value ct_law_value : Value}
    {x_law_holds : Addr} {od_law_holds an_law_holds : Option Addr} {sl_law_holds : Array (Option Value)} {oc_law_holds kV_law_holds dc_law_holds pm_law_holds cd_law_holds ct_law_holds : Value}
    {x_law_all_hold : Addr} {od_law_all_hold an_law_all_hold : Option Addr} {sl_law_all_hold : Array (Option Value)} {oc_law_all_hold kV_law_all_hold dc_law_all_hold pm_law_all_hold cd_law_all_hold ct_law_all_hold : Value}
    {x_law_is_integer : Addr} {od_law_is_integer an_law_is_integer : Option Addr} {sl_law_is_integer : Array (Option Value)} {oc_law_is_integer kV_law_is_integer dc_law_is_integer pm_law_is_integer cd_law_is_integer ct_law_is_integer : Value}
    {x_law_is_tuple_of_integers : Addr} {od_law_is_tuple_of_integers an_law_is_tuple_of_integers : Option Addr} {sl_law_is_tuple_of_integers : Array (Option Value)} {oc_law_is_tuple_of_integers kV_law_is_tuple_of_integers dc_law_is_tuple_of_integers pm_law_is_tuple_of_integers cd_law_is_tuple_of_integers ct_law_is_tuple_of_integers : Value}
    {x_law_same : Addr} {od_law_same an_law_same : Option Addr} {sl_law_same : Array (Option Value)} {oc_law_same kV_law_same dc_law_same pm_law_same cd_law_same ct_law_same : Value}
    {x_law_numbers : Addr} {od_law_numbers an_law_numbers : Option Addr} {sl_law_numbers : Array (Option Value)} {oc_law_numbers kV_law_numbers dc_law_numbers pm_law_numbers cd_law_numbers ct_law_numbers : Value}
    {x_law_constraint : Addr} {od_law_constraint an_law_constraint : Option Addr} {sl_law_constraint : Array (Option Value)} {oc_law_constraint kV_law_constraint dc_law_constraint pm_law_constraint cd_law_constraint ct_law_constraint : Value}
    {x_law : Addr} {od_law an_law : Option Addr} {sl_law : Array (Option Value)} {oc_law kV_law dc_law pm_law cd_law ct_law : Value}
    (a_value_at : PySem.W.nsIn K mainGlobals "value_at" = some (some (.ref x_value_at))) (l_value_at : K.lookup x_value_at = some ⟨oc_value_at, od_value_at, .func (PySem.W.fnOf "value_at" "value_at" (defArgs s_value_at) (defBody s_value_at) (defScope s_value_at) .none kV_value_at dc_value_at pm_value_at an_value_at cd_value_at ct_value_at), sl_value_at⟩) (c_value_at : PySem.W.codeIn K cd_value_at "value_at" = true) (k_value_at : PySem.W.keepIn K (.ref x_value_at) = true)
    (a_holds : PySem.W.nsIn K mainGlobals "holds" = some (some (.ref x_holds))) (l_holds : K.lookup x_holds = some ⟨oc_holds, od_holds, .func (PySem.W.fnOf "holds" "holds" (defArgs s_holds) (defBody s_holds) (defScope s_holds) .none kV_holds dc_holds pm_holds an_holds cd_holds ct_holds), sl_holds⟩) (c_holds : PySem.W.codeIn K cd_holds "holds" = true) (k_holds : PySem.W.keepIn K (.ref x_holds) = true)
    (a_all_hold : PySem.W.nsIn K mainGlobals "all_hold" = some (some (.ref x_all_hold))) (l_all_hold : K.lookup x_all_hold = some ⟨oc_all_hold, od_all_hold, .func (PySem.W.fnOf "all_hold" "all_hold" (defArgs s_all_hold) (defBody s_all_hold) (defScope s_all_hold) .none kV_all_hold dc_all_hold pm_all_hold an_all_hold cd_all_hold ct_all_hold), sl_all_hold⟩) (c_all_hold : PySem.W.codeIn K cd_all_hold "all_hold" = true) (k_all_hold : PySem.W.keepIn K (.ref x_all_hold) = true)
    (a_add : PySem.W.nsIn K mainGlobals "add" = some (some (.ref x_add))) (l_add : K.lookup x_add = some ⟨oc_add, od_add, .func (PySem.W.fnOf "add" "add" (defArgs s_add) (defBody s_add) (defScope s_add) .none kV_add dc_add pm_add an_add cd_add ct_add), sl_add⟩) (c_add : PySem.W.codeIn K cd_add "add" = true) (k_add : PySem.W.keepIn K (.ref x_add) = true)
    (a_multiply : PySem.W.nsIn K mainGlobals "multiply" = some (some (.ref x_multiply))) (l_multiply : K.lookup x_multiply = some ⟨oc_multiply, od_multiply, .func (PySem.W.fnOf "multiply" "multiply" (defArgs s_multiply) (defBody s_multiply) (defScope s_multiply) .none kV_multiply dc_multiply pm_multiply an_multiply cd_multiply ct_multiply), sl_multiply⟩) (c_multiply : PySem.W.codeIn K cd_multiply "multiply" = true) (k_multiply : PySem.W.keepIn K (.ref x_multiply) = true)
    (a_law_cell : PySem.W.nsIn K mainGlobals "_law_cell" = some (some (.ref x_law_cell))) (l_law_cell : K.lookup x_law_cell = some ⟨oc_law_cell, od_law_cell, .func (PySem.W.fnOf "_law_cell" "_law_cell" (defArgs s_law_cell) (defBody s_law_cell) (defScope s_law_cell) .none kV_law_cell dc_law_cell pm_law_cell an_law_cell cd_law_cell ct_law_cell), sl_law_cell⟩) (c_law_cell : PySem.W.codeIn K cd_law_cell "_law_cell" = true) (k_law_cell : PySem.W.keepIn K (.ref x_law_cell) = true)
    (a_law_value : PySem.W.nsIn K mainGlobals "_law_value" = some (some (.ref x_law_value))) (l_law_value : K.lookup x_law_value = some ⟨oc_law_value, od_law_value, .func (PySem.W.fnOf "_law_value" "_law_value" (defArgs s_law_value) (defBody s_law_value) (defScope s_law_value) .none kV_law_value dc_law_value pm_law_value an_law_value cd_law_value ct_law_value), sl_law_value⟩) (c_law_value : PySem.W.codeIn K cd_law_value "_law_value" = true) (k_law_value : PySem.W.keepIn K (.ref x_law_value) = true)
    (a_law_holds : PySem.W.nsIn K mainGlobals "_law_holds" = some (some (.ref x_law_holds))) (l_law_holds : K.lookup x_law_holds = some ⟨oc_law_holds, od_law_holds, .func (PySem.W.fnOf "_law_holds" "_law_holds" (defArgs s_law_holds) (defBody s_law_holds) (defScope s_law_holds) .none kV_law_holds dc_law_holds pm_law_holds an_law_holds cd_law_holds ct_law_holds), sl_law_holds⟩) (c_law_holds : PySem.W.codeIn K cd_law_holds "_law_holds" = true) (k_law_holds : PySem.W.keepIn K (.ref x_law_holds) = true)
    (a_law_all_hold : PySem.W.nsIn K mainGlobals "_law_all_hold" = some (some (.ref x_law_all_hold))) (l_law_all_hold : K.lookup x_law_all_hold = some ⟨oc_law_all_hold, od_law_all_hold, .func (PySem.W.fnOf "_law_all_hold" "_law_all_hold" (defArgs s_law_all_hold) (defBody s_law_all_hold) (defScope s_law_all_hold) .none kV_law_all_hold dc_law_all_hold pm_law_all_hold an_law_all_hold cd_law_all_hold ct_law_all_hold), sl_law_all_hold⟩) (c_law_all_hold : PySem.W.codeIn K cd_law_all_hold "_law_all_hold" = true) (k_law_all_hold : PySem.W.keepIn K (.ref x_law_all_hold) = true)
    (a_law_is_integer : PySem.W.nsIn K mainGlobals "_law_is_integer" = some (some (.ref x_law_is_integer))) (l_law_is_integer : K.lookup x_law_is_integer = some ⟨oc_law_is_integer, od_law_is_integer, .func (PySem.W.fnOf "_law_is_integer" "_law_is_integer" (defArgs s_law_is_integer) (defBody s_law_is_integer) (defScope s_law_is_integer) .none kV_law_is_integer dc_law_is_integer pm_law_is_integer an_law_is_integer cd_law_is_integer ct_law_is_integer), sl_law_is_integer⟩) (c_law_is_integer : PySem.W.codeIn K cd_law_is_integer "_law_is_integer" = true) (k_law_is_integer : PySem.W.keepIn K (.ref x_law_is_integer) = true)
    (a_law_is_tuple_of_integers : PySem.W.nsIn K mainGlobals "_law_is_tuple_of_integers" = some (some (.ref x_law_is_tuple_of_integers))) (l_law_is_tuple_of_integers : K.lookup x_law_is_tuple_of_integers = some ⟨oc_law_is_tuple_of_integers, od_law_is_tuple_of_integers, .func (PySem.W.fnOf "_law_is_tuple_of_integers" "_law_is_tuple_of_integers" (defArgs s_law_is_tuple_of_integers) (defBody s_law_is_tuple_of_integers) (defScope s_law_is_tuple_of_integers) .none kV_law_is_tuple_of_integers dc_law_is_tuple_of_integers pm_law_is_tuple_of_integers an_law_is_tuple_of_integers cd_law_is_tuple_of_integers ct_law_is_tuple_of_integers), sl_law_is_tuple_of_integers⟩) (c_law_is_tuple_of_integers : PySem.W.codeIn K cd_law_is_tuple_of_integers "_law_is_tuple_of_integers" = true) (k_law_is_tuple_of_integers : PySem.W.keepIn K (.ref x_law_is_tuple_of_integers) = true)
    (a_law_same : PySem.W.nsIn K mainGlobals "_law_same" = some (some (.ref x_law_same))) (l_law_same : K.lookup x_law_same = some ⟨oc_law_same, od_law_same, .func (PySem.W.fnOf "_law_same" "_law_same" (defArgs s_law_same) (defBody s_law_same) (defScope s_law_same) .none kV_law_same dc_law_same pm_law_same an_law_same cd_law_same ct_law_same), sl_law_same⟩) (c_law_same : PySem.W.codeIn K cd_law_same "_law_same" = true) (k_law_same : PySem.W.keepIn K (.ref x_law_same) = true)
    (a_law_numbers : PySem.W.nsIn K mainGlobals "_law_numbers" = some (some (.ref x_law_numbers))) (l_law_numbers : K.lookup x_law_numbers = some ⟨oc_law_numbers, od_law_numbers, .func (PySem.W.fnOf "_law_numbers" "_law_numbers" (defArgs s_law_numbers) (defBody s_law_numbers) (defScope s_law_numbers) .none kV_law_numbers dc_law_numbers pm_law_numbers an_law_numbers cd_law_numbers ct_law_numbers), sl_law_numbers⟩) (c_law_numbers : PySem.W.codeIn K cd_law_numbers "_law_numbers" = true) (k_law_numbers : PySem.W.keepIn K (.ref x_law_numbers) = true)
    (a_law_constraint : PySem.W.nsIn K mainGlobals "_law_constraint" = some (some (.ref x_law_constraint))) (l_law_constraint : K.lookup x_law_constraint = some ⟨oc_law_constraint, od_law_constraint, .func (PySem.W.fnOf "_law_constraint" "_law_constraint" (defArgs s_law_constraint) (defBody s_law_constraint) (defScope s_law_constraint) .none kV_law_constraint dc_law_constraint pm_law_constraint an_law_constraint cd_law_constraint ct_law_constraint), sl_law_constraint⟩) (c_law_constraint : PySem.W.codeIn K cd_law_constraint "_law_constraint" = true) (k_law_constraint : PySem.W.keepIn K (.ref x_law_constraint) = true)
    (a_law : PySem.W.nsIn K mainGlobals "law" = some (some (.ref x_law))) (l_law : K.lookup x_law = some ⟨oc_law, od_law, .func (PySem.W.fnOf "law" "law" (defArgs s_law) (defBody s_law) (defScope s_law) .none kV_law dc_law pm_law an_law cd_law ct_law), sl_law⟩) (c_law : PySem.W.codeIn K cd_law "law" = true) (k_law : PySem.W.keepIn K (.ref x_law) = true)
    (z_sum : PySem.W.nsIn K mainGlobals "sum" = some none)
    (z_zip : PySem.W.nsIn K mainGlobals "zip" = some none)
    (z_all : PySem.W.nsIn K mainGlobals "all" = some none)
    (z_tuple : PySem.W.nsIn K mainGlobals "tuple" = some none)
    (z_len : PySem.W.nsIn K mainGlobals "len" = some none)
    (z_int : PySem.W.nsIn K mainGlobals "int" = some none)
    (z_range : PySem.W.nsIn K mainGlobals "range" = some none)
    (z_isinstance : PySem.W.nsIn K mainGlobals "isinstance" = some none)
    (z_bool : PySem.W.nsIn K mainGlobals "bool" = some none) :
    ∃ A : Ad, Txt K mg A ∧ A.f_law = fa ∧ (∀ (s : Shared) (v : Value), BindsTo s A.d_law ⟨[v], []⟩ [("script", v)]) := by
  have e := hfa.symm.trans (PySem.W.mg_of X G a_law)
  cases e
  have F_value_at := fun_mk (st := s_value_at) l_value_at c_value_at k_value_at
  have B_value_at := F_value_at.binds (ps := ["expression", "point"]) fun _ _ _ _ _ _ us hl => match us, hl with | [_, _], _ => rfl
  have F_holds := fun_mk (st := s_holds) l_holds c_holds k_holds
  have B_holds := F_holds.binds (ps := ["constraint", "point"]) fun _ _ _ _ _ _ us hl => match us, hl with | [_, _], _ => rfl
  have F_all_hold := fun_mk (st := s_all_hold) l_all_hold c_all_hold k_all_hold
  have B_all_hold := F_all_hold.binds (ps := ["constraints", "point"]) fun _ _ _ _ _ _ us hl => match us, hl with | [_, _], _ => rfl
  have F_add := fun_mk (st := s_add) l_add c_add k_add
  have B_add := F_add.binds (ps := ["one", "other"]) fun _ _ _ _ _ _ us hl => match us, hl with | [_, _], _ => rfl
  have F_multiply := fun_mk (st := s_multiply) l_multiply c_multiply k_multiply
  have B_multiply := F_multiply.binds (ps := ["factor", "expression"]) fun _ _ _ _ _ _ us hl => match us, hl with | [_, _], _ => rfl
  have F_law_cell := fun_mk (st := s_law_cell) l_law_cell c_law_cell k_law_cell
  have B_law_cell := F_law_cell.binds (ps := ["script", "k"]) fun _ _ _ _ _ _ us hl => match us, hl with | [_, _], _ => rfl
  have F_law_value := fun_mk (st := s_law_value) l_law_value c_law_value k_law_value
  have B_law_value := F_law_value.binds (ps := ["expression", "point"]) fun _ _ _ _ _ _ us hl => match us, hl with | [_, _], _ => rfl
  have F_law_holds := fun_mk (st := s_law_holds) l_law_holds c_law_holds k_law_holds
  have B_law_holds := F_law_holds.binds (ps := ["constraint", "point"]) fun _ _ _ _ _ _ us hl => match us, hl with | [_, _], _ => rfl
  have F_law_all_hold := fun_mk (st := s_law_all_hold) l_law_all_hold c_law_all_hold k_law_all_hold
  have B_law_all_hold := F_law_all_hold.binds (ps := ["constraints", "point"]) fun _ _ _ _ _ _ us hl => match us, hl with | [_, _], _ => rfl
  have F_law_is_integer := fun_mk (st := s_law_is_integer) l_law_is_integer c_law_is_integer k_law_is_integer
  have B_law_is_integer := F_law_is_integer.binds (ps := ["actual"]) fun _ _ _ _ _ _ us hl => match us, hl with | [_], _ => rfl
  have F_law_is_tuple_of_integers := fun_mk (st := s_law_is_tuple_of_integers) l_law_is_tuple_of_integers c_law_is_tuple_of_integers k_law_is_tuple_of_integers
  have B_law_is_tuple_of_integers := F_law_is_tuple_of_integers.binds (ps := ["actual"]) fun _ _ _ _ _ _ us hl => match us, hl with | [_], _ => rfl
  have F_law_same := fun_mk (st := s_law_same) l_law_same c_law_same k_law_same
  have B_law_same := F_law_same.binds (ps := ["actual", "expected"]) fun _ _ _ _ _ _ us hl => match us, hl with | [_, _], _ => rfl
  have F_law_numbers := fun_mk (st := s_law_numbers) l_law_numbers c_law_numbers k_law_numbers
  have B_law_numbers := F_law_numbers.binds (ps := ["script", "first", "count"]) fun _ _ _ _ _ _ us hl => match us, hl with | [_, _, _], _ => rfl
  have F_law_constraint := fun_mk (st := s_law_constraint) l_law_constraint c_law_constraint k_law_constraint
  have B_law_constraint := F_law_constraint.binds (ps := ["script", "first", "expression"]) fun _ _ _ _ _ _ us hl => match us, hl with | [_, _, _], _ => rfl
  have F_law := fun_mk (st := s_law) l_law c_law k_law
  have B_law := F_law.binds (ps := ["script"]) fun _ _ _ _ _ _ us hl => match us, hl with | [_], _ => rfl
  exact ⟨{ f_value_at := x_value_at, f_holds := x_holds, f_all_hold := x_all_hold, f_add := x_add, f_multiply := x_multiply, f_law_cell := x_law_cell, f_law_value := x_law_value, f_law_holds := x_law_holds, f_law_all_hold := x_law_all_hold, f_law_is_integer := x_law_is_integer, f_law_is_tuple_of_integers := x_law_is_tuple_of_integers, f_law_same := x_law_same, f_law_numbers := x_law_numbers, f_law_constraint := x_law_constraint, f_law := fa, d_value_at := PySem.W.fnOf "value_at" "value_at" (defArgs s_value_at) (defBody s_value_at) (defScope s_value_at) .none kV_value_at dc_value_at pm_value_at an_value_at cd_value_at ct_value_at, d_holds := PySem.W.fnOf "holds" "holds" (defArgs s_holds) (defBody s_holds) (defScope s_holds) .none kV_holds dc_holds pm_holds an_holds cd_holds ct_holds, d_all_hold := PySem.W.fnOf "all_hold" "all_hold" (defArgs s_all_hold) (defBody s_all_hold) (defScope s_all_hold) .none kV_all_hold dc_all_hold pm_all_hold an_all_hold cd_all_hold ct_all_hold, d_add := PySem.W.fnOf "add" "add" (defArgs s_add) (defBody s_add) (defScope s_add) .none kV_add dc_add pm_add an_add cd_add ct_add, d_multiply := PySem.W.fnOf "multiply" "multiply" (defArgs s_multiply) (defBody s_multiply) (defScope s_multiply) .none kV_multiply dc_multiply pm_multiply an_multiply cd_multiply ct_multiply, d_law_cell := PySem.W.fnOf "_law_cell" "_law_cell" (defArgs s_law_cell) (defBody s_law_cell) (defScope s_law_cell) .none kV_law_cell dc_law_cell pm_law_cell an_law_cell cd_law_cell ct_law_cell, d_law_value := PySem.W.fnOf "_law_value" "_law_value" (defArgs s_law_value) (defBody s_law_value) (defScope s_law_value) .none kV_law_value dc_law_value pm_law_value an_law_value cd_law_value ct_law_value, d_law_holds := PySem.W.fnOf "_law_holds" "_law_holds" (defArgs s_law_holds) (defBody s_law_holds) (defScope s_law_holds) .none kV_law_holds dc_law_holds pm_law_holds an_law_holds cd_law_holds ct_law_holds, d_law_all_hold := PySem.W.fnOf "_law_all_hold" "_law_all_hold" (defArgs s_law_all_hold) (defBody s_law_all_hold) (defScope s_law_all_hold) .none kV_law_all_hold dc_law_all_hold pm_law_all_hold an_law_all_hold cd_law_all_hold ct_law_all_hold, d_law_is_integer := PySem.W.fnOf "_law_is_integer" "_law_is_integer" (defArgs s_law_is_integer) (defBody s_law_is_integer) (defScope s_law_is_integer) .none kV_law_is_integer dc_law_is_integer pm_law_is_integer an_law_is_integer cd_law_is_integer ct_law_is_integer, d_law_is_tuple_of_integers := PySem.W.fnOf "_law_is_tuple_of_integers" "_law_is_tuple_of_integers" (defArgs s_law_is_tuple_of_integers) (defBody s_law_is_tuple_of_integers) (defScope s_law_is_tuple_of_integers) .none kV_law_is_tuple_of_integers dc_law_is_tuple_of_integers pm_law_is_tuple_of_integers an_law_is_tuple_of_integers cd_law_is_tuple_of_integers ct_law_is_tuple_of_integers, d_law_same := PySem.W.fnOf "_law_same" "_law_same" (defArgs s_law_same) (defBody s_law_same) (defScope s_law_same) .none kV_law_same dc_law_same pm_law_same an_law_same cd_law_same ct_law_same, d_law_numbers := PySem.W.fnOf "_law_numbers" "_law_numbers" (defArgs s_law_numbers) (defBody s_law_numbers) (defScope s_law_numbers) .none kV_law_numbers dc_law_numbers pm_law_numbers an_law_numbers cd_law_numbers ct_law_numbers, d_law_constraint := PySem.W.fnOf "_law_constraint" "_law_constraint" (defArgs s_law_constraint) (defBody s_law_constraint) (defScope s_law_constraint) .none kV_law_constraint dc_law_constraint pm_law_constraint an_law_constraint cd_law_constraint ct_law_constraint, d_law := PySem.W.fnOf "law" "law" (defArgs s_law) (defBody s_law) (defScope s_law) .none kV_law dc_law pm_law an_law cd_law ct_law },
   { b_sum := PySem.W.mg_none_of X G z_sum, b_zip := PySem.W.mg_none_of X G z_zip, b_all := PySem.W.mg_none_of X G z_all, b_tuple := PySem.W.mg_none_of X G z_tuple, b_len := PySem.W.mg_none_of X G z_len, b_int := PySem.W.mg_none_of X G z_int, b_range := PySem.W.mg_none_of X G z_range, b_isinstance := PySem.W.mg_none_of X G z_isinstance, b_bool := PySem.W.mg_none_of X G z_bool, g_value_at := PySem.W.mg_of X G a_value_at, F_value_at := F_value_at, B_value_at := B_value_at, g_holds := PySem.W.mg_of X G a_holds, F_holds := F_holds, B_holds := B_holds, g_all_hold := PySem.W.mg_of X G a_all_hold, F_all_hold := F_all_hold, B_all_hold := B_all_hold, g_add := PySem.W.mg_of X G a_add, F_add := F_add, B_add := B_add, g_multiply := PySem.W.mg_of X G a_multiply, F_multiply := F_multiply, B_multiply := B_multiply, g_law_cell := PySem.W.mg_of X G a_law_cell, F_law_cell := F_law_cell, B_law_cell := B_law_cell, g_law_value := PySem.W.mg_of X G a_law_value, F_law_value := F_law_value, B_law_value := B_law_value, g_law_holds := PySem.W.mg_of X G a_law_holds, F_law_holds := F_law_holds, B_law_holds := B_law_holds, g_law_all_hold := PySem.W.mg_of X G a_law_all_hold, F_law_all_hold := F_law_all_hold, B_law_all_hold := B_law_all_hold, g_law_is_integer := PySem.W.mg_of X G a_law_is_integer, F_law_is_integer := F_law_is_integer, B_law_is_integer := B_law_is_integer, g_law_is_tuple_of_integers := PySem.W.mg_of X G a_law_is_tuple_of_integers, F_law_is_tuple_of_integers := F_law_is_tuple_of_integers, B_law_is_tuple_of_integers := B_law_is_tuple_of_integers, g_law_same := PySem.W.mg_of X G a_law_same, F_law_same := F_law_same, B_law_same := B_law_same, g_law_numbers := PySem.W.mg_of X G a_law_numbers, F_law_numbers := F_law_numbers, B_law_numbers := B_law_numbers, g_law_constraint := PySem.W.mg_of X G a_law_constraint, F_law_constraint := F_law_constraint, B_law_constraint := B_law_constraint, g_law := PySem.W.mg_of X G a_law, F_law := F_law, B_law := B_law }, rfl, fun s v => .of_eq rfl⟩
end
end K4
open PySem PySem.W PyProof.Rows in
set_option maxRecDepth 100000 in
set_option maxHeartbeats 0 in
theorem PySem.Challenge.cw_loopworks_k04_values_of_expressions_holds : PySem.Challenge.rw_loopworks_k04_values_of_expressions.Holds := by
  w_on; o_law; k_head; (case hw => w_witness2)
  k_fill
  refine L2.walk_ofB (l := PySem.Challenge.rw_loopworks_k04_values_of_expressions) (n := 63) (k := 4) (x := "script") (CX := fun _ => L2.CX0) (sp := fun w => K4.sp_law _) rfl (by decide) rfl ⟨rfl, by decide, by decide⟩ (fun w h Y => PySem.W.kIn_of Y) ?F (fun _ H a ns hl hb hO hS => K4.sp_law_of hl hb hO hS) (fun _ _ _ _ _ h => h)
  case F =>
    intro w mg fa h KX G hmg
    obtain ⟨A, T, e, hb⟩ : ∃ A : K4.Ad, K4.Txt _ mg A ∧ A.f_law = fa ∧ (∀ (s : Shared) (v : Value), BindsTo s A.d_law ⟨[v], []⟩ [("script", v)]) := by
      refine' K4.all_mk KX G hmg ?a_value_at ?l_value_at ?c_value_at ?k_value_at ?a_holds ?l_holds ?c_holds ?k_holds ?a_all_hold ?l_all_hold ?c_all_hold ?k_all_hold ?a_add ?l_add ?c_add ?k_add ?a_multiply ?l_multiply ?c_multiply ?k_multiply ?a_law_cell ?l_law_cell ?c_law_cell ?k_law_cell ?a_law_value ?l_law_value ?c_law_value ?k_law_value ?a_law_holds ?l_law_holds ?c_law_holds ?k_law_holds ?a_law_all_hold ?l_law_all_hold ?c_law_all_hold ?k_law_all_hold ?a_law_is_integer ?l_law_is_integer ?c_law_is_integer ?k_law_is_integer ?a_law_is_tuple_of_integers ?l_law_is_tuple_of_integers ?c_law_is_tuple_of_integers ?k_law_is_tuple_of_integers ?a_law_same ?l_law_same ?c_law_same ?k_law_same ?a_law_numbers ?l_law_numbers ?c_law_numbers ?k_law_numbers ?a_law_constraint ?l_law_constraint ?c_law_constraint ?k_law_constraint ?a_law ?l_law ?c_law ?k_law ?z_sum ?z_zip ?z_all ?z_tuple ?z_len ?z_int ?z_range ?z_isinstance ?z_bool
      (case a_value_at => k_is)
      (case l_value_at => k_is)
      (case c_value_at => k_is)
      (case k_value_at => k_is)
      (case a_holds => k_is)
      (case l_holds => k_is)
      (case c_holds => k_is)
      (case k_holds => k_is)
      (case a_all_hold => k_is)
      (case l_all_hold => k_is)
      (case c_all_hold => k_is)
      (case k_all_hold => k_is)
      (case a_add => k_is)
      (case l_add => k_is)
      (case c_add => k_is)
      (case k_add => k_is)
      (case a_multiply => k_is)
      (case l_multiply => k_is)
      (case c_multiply => k_is)
      (case k_multiply => k_is)
      (case a_law_cell => k_is)
      (case l_law_cell => k_is)
      (case c_law_cell => k_is)
      (case k_law_cell => k_is)
      (case a_law_value => k_is)
      (case l_law_value => k_is)
      (case c_law_value => k_is)
      (case k_law_value => k_is)
      (case a_law_holds => k_is)
      (case l_law_holds => k_is)
      (case c_law_holds => k_is)
      (case k_law_holds => k_is)
      (case a_law_all_hold => k_is)
      (case l_law_all_hold => k_is)
      (case c_law_all_hold => k_is)
      (case k_law_all_hold => k_is)
      (case a_law_is_integer => k_is)
      (case l_law_is_integer => k_is)
      (case c_law_is_integer => k_is)
      (case k_law_is_integer => k_is)
      (case a_law_is_tuple_of_integers => k_is)
      (case l_law_is_tuple_of_integers => k_is)
      (case c_law_is_tuple_of_integers => k_is)
      (case k_law_is_tuple_of_integers => k_is)
      (case a_law_same => k_is)
      (case l_law_same => k_is)
      (case c_law_same => k_is)
      (case k_law_same => k_is)
      (case a_law_numbers => k_is)
      (case l_law_numbers => k_is)
      (case c_law_numbers => k_is)
      (case k_law_numbers => k_is)
      (case a_law_constraint => k_is)
      (case l_law_constraint => k_is)
      (case c_law_constraint => k_is)
      (case k_law_constraint => k_is)
      (case a_law => k_is)
      (case l_law => k_is)
      (case c_law => k_is)
      (case k_law => k_is)
      (case z_sum => k_is)
      (case z_zip => k_is)
      (case z_all => k_is)
      (case z_tuple => k_is)
      (case z_len => k_is)
      (case z_int => k_is)
      (case z_range => k_is)
      (case z_isinstance => k_is)
      (case z_bool => k_is)
    subst e
    exact ⟨A.d_law, hb, fun base _ _ => K4.ok_law T⟩
