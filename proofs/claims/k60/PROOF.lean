import PyProof.Rows.All
import Wide.All
import OpenK.AllK
import Wide.FinOn
import HandS.ForMost
import HandS.Zip
import HandS.Wide
import HandS.TupAny
import HandS.IsInst
import HandS.EndBits
import HandS.Walk
import HandS.More
import HandS.RaiseMore
import HandS.SetIn
import KE.KExcSuper
import HandS.Nested
import HandS.NestedK
import HandS.ExcInit
import HandS.HotCalls
import HandS.ExcIs
import HandS.ExcField
import HandS.FStr
import KE.KExcIs
import HandS.TupMul
import HandS.Gcd
import KE.KeyNested
import KE.DataMinMax
import HandS.SetKeys
import HandS.Property
import HandS.Codes
import KE.KOpsOwn
import HandS.OwnEq
import HandS.Zip0
import PyProof.Draws
import KE.GoesZip
import HandS.ExcOwn
import HandS.ExcCtx
import KE.KMathG
import KE.KMathGC
import HandS.SortKw
import HandS.CallLocal
import KE.KExcHand
import KE.KTryMore
import PyProof.TupleIter
import PyProof.Rules3
import PySem.Challenge.RW_loopworks_k60_limits_of_steps
set_option Elab.async false
set_option linter.all false
set_option maxRecDepth 100000
set_option maxHeartbeats 4000000
namespace Bs
open PySem L2

/-! ### loops as one word -/
def Loop (J : It) (g : TG) (tb : TS) (D : Ends) (σ : St) (H1 : Hp) : Prop := ∃ W : Nat → Nat → St → Hp → Prop, (∃ m, W 0 m σ H1) ∧ ∀ i m σ H, W i m σ H →
  (J.stop i H ∧ D.nx σ H) ∨ (J.go i H ∧ ∃ N : St → Hp → Prop, (∀ σ' H', N σ' H' → ∃ m', m' < m ∧ W (i + 1) m' σ' H') ∧ ∀ x H', J.yld i H x H' → g x σ H' fun σ2 H2 => tb { D with nx := N, ct := N, bk := D.nx } σ2 H2)
theorem for_eq (wi : TI) (g : TG) (tb : TS) (D : Ends) (σ : St) (H : Hp) : tFor wi g tb D σ H = wi σ H fun J H1 => Loop J g tb D σ H1 := rfl
def LoopC (J : It) (g : TG) (tt : TT) (te : TE) (vs : List Nat) (σ : St) (H1 : Hp) (D : Addr) (Qd : Hp → Prop) : Prop := ∃ W : Nat → Nat → Hp → Prop, (∃ m, W 0 m (upd H1 D (.lst []))) ∧ ∀ i m H, W i m H →
  (J.stop i H ∧ Qd H) ∨ (J.go i H ∧ ∃ Nx : Hp → Prop, (∀ H', Nx H' → ∃ m', m' < m ∧ W (i + 1) m' H') ∧ ∀ x H', J.yld i H x H' → g x (wipe σ vs) H' fun σ2 H2 => wipe σ2 vs = wipe σ vs ∧ tt σ2 H2 fun b H3 =>
    if b = true then te σ2 H3 fun y H4 => ∃ acc, H4 D = some (.lst acc) ∧ acc.length < sizeLine ∧ Nx (upd H4 D (.lst (acc ++ [y]))) else Nx H3)
theorem lc_eq (wi : TI) (g : TG) (tt : TT) (te : TE) (vs : List Nat) (σ : St) (H : Hp) (Q : VK) : tLc wi g tt te vs σ H Q = wi σ H fun J H1 => ∀ D, H1 D = none → LoopC J g tt te vs σ H1 D (fun H => Q (.ref D) H) := rfl
def LoopW (c : TT) (tb : TS) (D : Ends) (σ : St) (H : Hp) : Prop := tWhile c tb D σ H
theorem while_eq (c : TT) (tb : TS) (D : Ends) (σ : St) (H : Hp) : tWhile c tb D σ H = LoopW c tb D σ H := rfl

theorem test_eq (t : TE) (σ : St) (H : Hp) (Q : Bool → Hp → Prop) : tTest t σ H Q = t σ H fun x H' => ∃ k, x = .bl k ∧ Q k H' := rfl
theorem ex_bl {b : Bool} {Q : Bool → Prop} : (∃ k, V.bl b = .bl k ∧ Q k) = Q b := propext ⟨fun ⟨k, e, q⟩ => by cases e; exact q, fun q => ⟨b, rfl, q⟩⟩
theorem ex_int {i : Int} {Q : Int → Prop} : (∃ k, V.int i = .int k ∧ Q k) = Q i := propext ⟨fun ⟨k, e, q⟩ => by cases e; exact q, fun q => ⟨i, rfl, q⟩⟩

theorem cxK {CX : CXT} {P : Program} {w : World} {K : PySem.W.Frag} {mg : Str → Option Value} {base : Heap} {N : List Str} {qual : Str} {scope : Scope} {f : Addr} {cd : Value} {A : Around} {outer : List Env} {s : Shared} {H : Hp} {E : XK} : (cxOf CX P w K mg base N qual scope f cd A outer s H E).K = K := rfl
/-! ### sizes -/
theorem smallM {n : Nat} (h : n ≤ 1000000) : n < sizeLine := Nat.lt_of_le_of_lt h (by decide)
def Sz (n : Nat) (x : Int) : Prop := x.natAbs < 2 ^ n
theorem Sz.mono {a b : Nat} {x : Int} (h : Sz a x) (l : a ≤ b) : Sz b x := Nat.lt_of_lt_of_le h (Nat.pow_le_pow_right (by decide) l)
theorem Sz.add {a : Nat} {x y : Int} (h : Sz a x) (k : Sz a y) : Sz (a + 1) (x + y) := by
  unfold Sz at *
  rw [Nat.pow_succ]
  omega
theorem Sz.sub {a : Nat} {x y : Int} (h : Sz a x) (k : Sz a y) : Sz (a + 1) (x - y) := by
  unfold Sz at *
  rw [Nat.pow_succ]
  omega
theorem Sz.mul {a b : Nat} {x y : Int} (h : Sz a x) (k : Sz b y) : Sz (a + b) (x * y) := wide_lt h k
theorem Sz.zero (a : Nat) : Sz a 0 := Nat.pow_pos (by decide)
theorem Sz.bits {n : Int} {b : Nat} (h : Builtin.Int.intBits n ≤ b) : Sz (b + 1) n := by
  unfold Sz
  unfold Builtin.Int.intBits at h
  by_cases e : n.natAbs = 0
  · rw [e]; exact Nat.pow_pos (by decide)
  · have l : n.natAbs < 2 ^ (n.natAbs.log2 + 1) := Nat.lt_log2_self
    refine Nat.lt_of_lt_of_le l (Nat.pow_le_pow_right (by decide) ?_)
    have en : (n == 0) = false := by
      rw [beq_eq_false_iff_ne]
      intro z
      subst z
      exact e rfl
    rw [en] at h
    have h' : n.natAbs.log2 + 1 ≤ b := h
    omega
def CMulX (i j : Int) : Prop := ∃ a b : Nat, Sz a i ∧ Sz b j ∧ a + b ≤ 100000000
theorem log2_le_of {n a : Nat} (h : n < 2 ^ a) : n.log2 ≤ a := by
  by_cases e : n = 0
  · subst e; exact Nat.zero_le _
  · exact Nat.le_of_lt ((Nat.log2_lt e).mpr h)
theorem CMulX.ok {i j : Int} (h : CMulX i j) : IntMulOk i j := by
  obtain ⟨a, b, ha, hb, hab⟩ := h
  have q : ∀ x : Int, Builtin.Int.intBits x ≤ x.natAbs.log2 + 1 := fun x => by
    unfold Builtin.Int.intBits
    split <;> omega
  have h1 := q i
  have h2 := q j
  have h3 := log2_le_of ha
  have h4 := log2_le_of hb
  have e : bitsLine = 134217728 := by decide
  unfold IntMulOk
  intro z
  rw [Bool.and_eq_true] at z
  have z2 := z.2
  unfold Builtin.Int.intTooBig at z2
  have z3 := of_decide_eq_true z2
  rw [e] at z3
  omega
theorem op_mulX {X : Cx} : OpR X (binaryOp .Mult) (rI CMulX fun i j => .int (i * j)) := opI fun _ _ _ _ _ _ _ hc q => PyProof.Rows.mul_int q hc.ok
/-! ### loops and comprehensions over a walk -/
theorem loop_it {J : It} {n : Nat} {G : Hp → Prop} {Y : Nat → Hp → V → Hp → Prop} (w : Walk J n G Y) {g : TG} {tb : TS} {D : Ends} {σ : St} {H : Hp} (Pv : Nat → St → Hp → Prop) (h0 : Pv 0 σ H) (hG : ∀ i σ H, i ≤ n → Pv i σ H → G H)
    (hs : ∀ i x σ H H', i < n → Pv i σ H → Y i H x H' → g x σ H' fun σ2 H2 => tb { D with nx := Pv (i + 1), ct := Pv (i + 1), bk := D.nx } σ2 H2) (hd : ∀ σ H, Pv n σ H → D.nx σ H) : Loop J g tb D σ H := for_it w Pv h0 hG hs hd
theorem loopc_it {J : It} {n : Nat} {G : Hp → Prop} {Y : Nat → Hp → V → Hp → Prop} (w : Walk J n G Y) {g : TG} {tt : TT} {te : TE} {vs : List Nat} {σ : St} {H1 : Hp} {D : Addr} {Qd : Hp → Prop} (Pv : Nat → Hp → Prop) (h0 : Pv 0 (upd H1 D (.lst []))) (hG : ∀ i H, i ≤ n → Pv i H → G H)
    (hs : ∀ i x H H', i < n → Pv i H → Y i H x H' → g x (wipe σ vs) H' fun σ2 H2 => wipe σ2 vs = wipe σ vs ∧ tt σ2 H2 fun b H3 =>
      if b = true then te σ2 H3 fun y H4 => ∃ acc, H4 D = some (.lst acc) ∧ acc.length < sizeLine ∧ Pv (i + 1) (upd H4 D (.lst (acc ++ [y]))) else Pv (i + 1) H3) (hd : ∀ H, Pv n H → Qd H) : LoopC J g tt te vs σ H1 D Qd := lc_it w Pv h0 hG hs hd
theorem same_upd {H : Hp} {p : Addr} {o : HO} (h : H p = none) : Same H (upd H p o) := fun b x e => by
  rw [upd_ne (ne_of_none e h)]
  exact e
theorem same_upd2 {H H' : Hp} {p : Addr} {o : HO} (e : Same H H') (h : H p = none) : Same H (upd H' p o) := fun b x q => by
  rw [upd_ne (ne_of_none q h)]
  exact e _ _ q
/-- [e for ..], without a test, whose element is told by the turn -/
theorem lc_pure {J : It} {n : Nat} {G : Hp → Prop} {Y : Nat → Hp → V → Hp → Prop} (w : Walk J n G Y) {g : TG} {te : TE} {vs : List Nat} {σ : St} {H1 : Hp} {D : Addr} {Qd : Hp → Prop} (f : Nat → V) (hD : H1 D = none) (hn : n ≤ 1000000)
    (hG : ∀ H', Same H1 H' → G H') (hY : ∀ i H x H', Y i H x H' → Same H H')
    (hs : ∀ i x H H' (R : VK), i < n → Same H1 H' → Y i H x H' → (∀ H4, Same H' H4 → R (f i) H4) → g x (wipe σ vs) H' fun σ2 H2 => wipe σ2 vs = wipe σ vs ∧ te σ2 H2 R)
    (hd : ∀ H', Same H1 H' → H' D = some (.lst ((List.range n).map f)) → Qd H') : LoopC J g tYes te vs σ H1 D Qd := by
  refine loopc_it w (fun i H => Same H1 H ∧ H D = some (.lst ((List.range i).map f))) ⟨same_upd hD, upd_same⟩ (fun i H _ p => hG H p.1) (fun i x H H' hi p y => ?_) (fun H p => hd H p.1 p.2)
  have hYs := hY _ _ _ _ y
  have q := hs i x H H' (fun y H4 => ∃ acc, H4 D = some (.lst acc) ∧ acc.length < sizeLine ∧ (Same H1 (upd H4 D (.lst (acc ++ [y]))) ∧ upd H4 D (.lst (acc ++ [y])) D = some (.lst ((List.range (i + 1)).map f)))) hi (p.1.trans hYs) y (fun H4 s4 => ?_)
  · exact q
  · refine ⟨_, s4 _ _ (hYs _ _ p.2), ?_, same_upd2 (p.1.trans (hYs.trans s4)) hD, ?_⟩
    · rw [List.length_map, List.length_range]
      exact smallM (by omega)
    · rw [upd_same, List.range_succ, List.map_append]
      rfl
theorem range_getD {α : Type} (d : α) : ∀ ys : List α, (List.range ys.length).map (fun i => ys[i]?.getD d) = ys := fun ys => by
  refine List.ext_getElem? fun i => ?_
  rw [List.getElem?_map]
  by_cases h : i < ys.length
  · rw [List.getElem?_range h, List.getElem?_eq_getElem h]
    simp [h]
  · rw [List.getElem?_eq_none (by rw [List.length_range]; omega), List.getElem?_eq_none (by omega)]
    rfl
/-- the same by the list that comes out -/
theorem lc_ys {J : It} {n : Nat} {G : Hp → Prop} {Y : Nat → Hp → V → Hp → Prop} (w : Walk J n G Y) {g : TG} {te : TE} {vs : List Nat} {σ : St} {H1 : Hp} {D : Addr} {Qd : Hp → Prop} (ys : List V) (hD : H1 D = none) (hn : n ≤ 1000000) (hl : ys.length = n)
    (hG : ∀ H', Same H1 H' → G H') (hY : ∀ i H x H', Y i H x H' → Same H H')
    (hs : ∀ i x y H H' (R : VK), i < n → ys[i]? = some y → Same H1 H' → Y i H x H' → (∀ H4, Same H' H4 → R y H4) → g x (wipe σ vs) H' fun σ2 H2 => wipe σ2 vs = wipe σ vs ∧ te σ2 H2 R)
    (hd : ∀ H', Same H1 H' → H' D = some (.lst ys) → Qd H') : LoopC J g tYes te vs σ H1 D Qd := by
  refine lc_pure w (fun i => ys[i]?.getD .non) hD hn hG hY (fun i x H H' R hi s1 y k => ?_) (fun H' s' e => hd H' s' ?_)
  · have hy : ys[i]? = some (ys[i]?.getD .non) := by
      rw [List.getElem?_eq_getElem (by omega)]
      rfl
    exact hs i x _ H H' R hi hy s1 y k
  · rw [← hl, range_getD] at e
    exact e
theorem walk_zipT {K : PySem.W.Frag} {a b : Addr} {xs ys : List V} {n : Nat} (hn : n = min xs.length ys.length) : Walk (RZ.ItzT K a b) n (fun H => SqT K H a xs ∧ SqT K H b ys) (YPair (fun i => xs[i]?) (fun i => ys[i]?)) := by
  subst hn
  refine ⟨fun i _ hi q => ?_, fun _ q => ⟨xs, ys, q.1, q.2, by omega⟩, fun i H v H' _ q y => ?_⟩
  · have h1 : i < xs.length := by omega
    have h2 : i < ys.length := by omega
    exact ⟨xs, ys, xs[i], ys[i], q.1, q.2, by simp [h1], by simp [h2]⟩
  · obtain ⟨T, x, z, h1, h2, h3, h4, h5⟩ := y
    exact ⟨T, x, z, h1, h2, h3, h4 xs q.1, h5 ys q.2⟩
theorem ypair_same {xs ys : Nat → Option V} : ∀ (i : Nat) (H : Hp) (x : V) (H' : Hp), YPair xs ys i H x H' → Same H H' := fun i H x H' ⟨T, _, _, _, n, e, _⟩ => by
  subst e
  exact same_upd n
theorem yat_same {xs : List V} : ∀ (i : Nat) (H : Hp) (x : V) (H' : Hp), YAt xs i H x H' → Same H H' := fun i H x H' ⟨e, _⟩ => by
  subst e
  exact Same.refl _
theorem yfn_same {f : Nat → V} : ∀ (i : Nat) (H : Hp) (x : V) (H' : Hp), YFn f i H x H' → Same H H' := fun i H x H' ⟨e, _⟩ => by
  subst e
  exact Same.refl _
theorem sameT {K : PySem.W.Frag} {H H' : Hp} {a : Addr} {xs : List V} (e : Same H H') (h : SqT K H a xs) : SqT K H' a xs := by
  rcases h with (h | ⟨o, h⟩) | h
  · exact .inl (.inl (e _ _ h))
  · exact .inl (.inr ⟨o, e _ _ h⟩)
  · exact .inr h
theorem scal_ii (a b : Int) : scal (.int a) (.int b) = true := rfl
theorem scal_ss (a b : Str) : scal (.str a) (.str b) = true := rfl
theorem scal_bb (a b : Bool) : scal (.bl a) (.bl b) = true := rfl
theorem dec_ii (a b : Int) : decide (V.int a = V.int b) = decide (a = b) := decide_eq_decide.mpr (by rw [V.int.injEq])
theorem dec_ss (a b : Str) : decide (V.str a = V.str b) = decide (a = b) := decide_eq_decide.mpr (by rw [V.str.injEq])
theorem dec_bb (a b : Bool) : decide (V.bl a = V.bl b) = decide (a = b) := decide_eq_decide.mpr (by rw [V.bl.injEq])
theorem walk_range0 {n : Nat} : Walk (Itr 0 n) n (fun _ => True) (fun i H x H' => H' = H ∧ x = V.int ((i : Nat) : Int)) :=
  ⟨fun _ _ hi _ => hi, fun _ _ => Nat.le_refl _, fun _ _ _ _ _ _ y => ⟨y.1, by rw [y.2, Int.zero_add]⟩⟩
theorem yat_at {xs : List V} {i : Nat} {H H' : Hp} {x : V} (y : YAt xs i H x H') : H' = H ∧ xs[i]? = some x := y
theorem isi {K : PySem.W.Frag} {H : Hp} {x : V} {a b : String} {r : Bool} {Q : VK} (ty : TyX K H x (.type a)) (hk : kitB a b = some r) (q : Q (.bl r) H) : rIsi K [x, .ty b] H Q :=
  ⟨x, .ty b, .type a, .type b, r, rfl, .ty b, ty, kit_ty hk, q⟩
theorem ty_int {K : PySem.W.Frag} {H : Hp} {i : Int} : TyX K H (.int i) (.type "int") := .base (.int i)
theorem ty_bl {K : PySem.W.Frag} {H : Hp} {i : Bool} : TyX K H (.bl i) (.type "bool") := .base (.bl i)
theorem ty_str {K : PySem.W.Frag} {H : Hp} {i : Str} : TyX K H (.str i) (.type "str") := .base (.str i)
theorem ty_tup {K : PySem.W.Frag} {H : Hp} {a : Addr} {xs : List V} (h : SqT K H a xs) : TyX K H (.ref a) (.type "tuple") := by
  rcases h with (h | ⟨o, h⟩) | ⟨o, _, _, h, c, _⟩
  · exact .base (.tup h)
  · exact .fTuple h
  · exact .kTuple h c
theorem ty_lst {K : PySem.W.Frag} {H : Hp} {a : Addr} {xs : List V} (h : SqL K H a xs) : TyX K H (.ref a) (.type "list") := by
  rcases h with (h | ⟨o, h⟩) | ⟨o, _, _, h, c, _⟩
  · exact .base (.lst h)
  · exact .base (.frz h)
  · exact .kList h c
theorem sqT_upd {K : PySem.W.Frag} {H : Hp} {p b : Addr} {o : HO} {xs ys : List V} (hp : H p = some (.lst xs)) (h : SqT K H b ys) : SqT K (upd H p o) b ys := by
  rcases h with (h | ⟨o, h⟩) | h
  · exact .inl (.inl (by rw [upd_ne (ne_of h hp (by intro z; cases z))]; exact h))
  · exact .inl (.inr ⟨o, by rw [upd_ne (ne_of h hp (by intro z; cases z))]; exact h⟩)
  · exact .inr h
end Bs
namespace Bs
open PySem L2 TL

/-! ### texts -/
theorem call_str_any {X : Cx} : CallR X (.type "str") (fun xs H Q => (∃ i, xs = [.int i] ∧ i.natAbs.log2 < 1920 ∧ Q (.str (toString i)) H) ∨ ∃ a, xs = [.str a] ∧ Q (.str a) H) := by
  intro pins s σ H xs us Q I r h
  rcases h with h | h
  · exact call_str_int pins s σ H xs us Q I r h
  · exact SkE.call_str_str pins s σ H xs us Q I r h
theorem call_intI {X : Cx} : CallR X (.type "int") (fun xs H Q => ∃ i, xs = [.int i] ∧ Q (.int i) H) := by
  intro pins s σ H xs us Q I r h
  exact call_int1 pins s σ H xs us Q I r (.inl h)
/-- z repeated n times -/
def rep (z : Str) (n : Nat) : Str := ⟨((List.replicate n (tl z)).flatten).toArray⟩
theorem tl_rep (z : Str) (n : Nat) : tl (rep z n) = (List.replicate n (tl z)).flatten := rfl
theorem rep_len (z : Str) (n : Nat) : (rep z n).length = z.length * n := by
  rw [len_tl, len_tl, tl_rep, List.length_flatten, List.map_replicate]
  generalize (tl z).length = k
  induction n with
  | zero => rfl
  | succ n ih => rw [List.replicate_succ, List.sum_cons, ih, Nat.mul_succ]; omega
theorem foldl_app (l : List (Array Nat)) : ∀ a : Array Nat, (l.foldl (· ++ ·) a).toList = a.toList ++ (l.map Array.toList).flatten := by
  induction l with
  | nil => intro a; simp
  | cons x r ih => intro a; simp [ih, List.append_assoc]
theorem mul_rep (z : Str) (n : Nat) : Txt.mul z (n : Int) = rep z n := by
  refine ext_tl ?_
  rw [tl_rep]
  unfold Txt.mul
  by_cases h1 : ((n : Nat) : Int) < 1
  · have e : n = 0 := by omega
    subst e
    rw [if_pos h1]
    rfl
  · rw [if_neg h1]
    split
    · rename_i h2
      rw [Bool.or_eq_true, beq_iff_eq, beq_iff_eq] at h2
      rcases h2 with h2 | h2
      · have e : n = 1 := by omega
        subst e
        simp
      · have e : tl z = [] := (len0_tl z).mp h2
        rw [e]
        simp
    · show (List.foldl (· ++ ·) #[] (List.replicate ((n : Int)).toNat z.cps)).toList = _
      rw [foldl_app, Int.toNat_natCast, List.map_replicate]
      rfl
def rRepS : R2 := fun x y H Q => ∃ (z : Str) (n : Nat), x = .str z ∧ y = .int (n : Int) ∧ z.length ≤ 1000 ∧ n ≤ 1000 ∧ Q (.str (rep z n)) H
theorem op_repS {X : Cx} : OpR X (binaryOp .Mult) rRepS := by
  intro pins s σ H x y v u Q I rx ry h
  obtain ⟨z, n, rfl, rfl, hz, hn, q⟩ := h
  obtain ⟨t, rfl⟩ := rx
  obtain ⟨t', rfl⟩ := ry
  refine SB.mul (n := (n : Int)) ⟨?_, fun h1 _ => ?_, fun h1 _ => ?_⟩ fun t1 k => ⟨.str (rep z n), H, I.tok k, ⟨t1, by rw [mul_rep]⟩, q⟩
  · rw [Bool.or_eq_false_iff]
    constructor <;> rw [decide_eq_false_iff_not] <;> omega
  · have hn1 : 1 ≤ (n : Int) := by omega
    have h2 : (1000 : Int) ≤ (2 ^ 63 - 1) / (n : Int) := by
      rw [Int.le_ediv_iff_mul_le (by omega)]
      omega
    omega
  · show decide (z.length * ((n : Int)).toNat > sizeLine) = false
    have hm : z.length * n ≤ 1000 * 1000 := Nat.mul_le_mul hz hn
    rw [Int.toNat_natCast]
    exact decide_eq_false (by have : (1000 * 1000 : Nat) < sizeLine := by decide
                              omega)
theorem len_app (x y : Str) : (x ++ y).length = x.length + y.length := Str.length_append x y
/-- the texts of a list, one behind the other -/
def flat (ps : List Str) : Str := Str.join Str.empty ps
theorem tl_flat (ps : List Str) : tl (flat ps) = (ps.map tl).flatten := by
  unfold flat
  rw [tl_join]
  show joinL [] (ps.map tl) = _
  generalize ps.map tl = l
  induction l with
  | nil => rfl
  | cons x r ih =>
    cases r with
    | nil => simp [joinL]
    | cons y r => rw [joinL, ih]; simp
theorem flat_snoc (ps : List Str) (x : Str) : flat (ps ++ [x]) = flat ps ++ x := by
  refine ext_tl ?_
  rw [tl_append, tl_flat, tl_flat]
  simp
theorem flat_len (ps : List Str) : (ps.map (·.length)).sum = (flat ps).length := by
  rw [len_tl, tl_flat, List.length_flatten, List.map_map]
  congr 1
theorem join_flat (e : Str) (h : tl e = []) (ps : List Str) : Txt.join e ps = flat ps := by
  rw [join_eq]
  refine ext_tl ?_
  rw [tl_join, tl_flat, h]
  generalize ps.map tl = l
  induction l with
  | nil => rfl
  | cons x r ih =>
    cases r with
    | nil => simp [joinL]
    | cons y r => rw [joinL, ih]; simp

theorem cut_take (z : Str) (n : Nat) : tl (cutS z none (some (n : Int))) = (tl z).take n := by
  show ((tl z).drop (HT.sIx z.length 0 none)).take (HT.sIx z.length z.length (some (n : Int)) - HT.sIx z.length 0 none) = _
  rw [HT.sIx_none, HT.sIx_nat, List.drop_zero, Nat.sub_zero, len_tl]
  by_cases h : n ≤ (tl z).length
  · rw [Nat.min_eq_left h]
  · rw [Nat.min_eq_right (by omega), List.take_of_length_le (Nat.le_refl _), List.take_of_length_le (by omega)]
theorem cut_drop (z : Str) (n : Nat) : tl (cutS z (some (n : Int)) none) = (tl z).drop n := by
  show ((tl z).drop (HT.sIx z.length 0 (some (n : Int)))).take (HT.sIx z.length z.length none - HT.sIx z.length 0 (some (n : Int))) = _
  rw [HT.sIx_none, HT.sIx_nat, len_tl]
  by_cases h : n ≤ (tl z).length
  · rw [Nat.min_eq_left h, List.take_of_length_le (by rw [List.length_drop]; omega)]
  · rw [Nat.min_eq_right (by omega), Nat.sub_self, List.take_zero, List.drop_eq_nil_of_le (by omega)]
theorem tl1 (c : Nat) : tl ⟨#[c]⟩ = [c] := rfl
theorem sum_ones {α : Type} : ∀ l : List α, (l.map fun _ => 1).sum = l.length
  | [] => rfl
  | x :: l => by
    rw [List.map_cons, List.sum_cons, sum_ones l, List.length_cons]
    omega
theorem sgn_inj {a b : Nat} (h : (⟨#[a]⟩ : Str) = ⟨#[b]⟩) : a = b := by
  have e := congrArg tl h
  rw [tl1, tl1] at e
  exact List.head_eq_of_cons_eq e
theorem sgn_eq (a b : Nat) : ((⟨#[a]⟩ : Str) = ⟨#[b]⟩) = (a = b) := propext ⟨sgn_inj, fun h => by rw [h]⟩
/-! ### a while, by a word with its measure -/
def Turn (W : Nat → St → Hp → Prop) (m : Nat) (tb : TS) (D : Ends) (σ : St) (H : Hp) : Prop := ∃ N : St → Hp → Prop, (∀ σ' H', N σ' H' → ∃ m', m' < m ∧ W m' σ' H') ∧ tb { D with nx := N, ct := N, bk := D.nx } σ H
theorem turn_of {W : Nat → St → Hp → Prop} {m : Nat} {tb : TS} {D : Ends} {σ : St} {H : Hp} (h : tb { D with nx := fun σ' H' => ∃ m', m' < m ∧ W m' σ' H', ct := fun σ' H' => ∃ m', m' < m ∧ W m' σ' H', bk := D.nx } σ H) : Turn W m tb D σ H := ⟨_, fun _ _ h => h, h⟩
theorem loopw {c : TT} {tb : TS} {D : Ends} {σ : St} {H : Hp} (W : Nat → St → Hp → Prop) (m : Nat) (h0 : W m σ H) (hs : ∀ m σ H, W m σ H → c σ H fun b H1 => if b = true then Turn W m tb D σ H1 else D.nx σ H1) : LoopW c tb D σ H := ⟨W, ⟨m, h0⟩, hs⟩
theorem cut_mid (z : Str) (i k : Nat) : tl (cutS z (some (i : Int)) (some ((i : Int) + (k : Int)))) = ((tl z).drop i).take k := by
  have e : (i : Int) + (k : Int) = ((i + k : Nat) : Int) := by omega
  rw [e]
  show ((tl z).drop (HT.sIx z.length 0 (some (i : Int)))).take (HT.sIx z.length z.length (some ((i + k : Nat) : Int)) - HT.sIx z.length 0 (some (i : Int))) = _
  rw [HT.sIx_nat, HT.sIx_nat, len_tl]
  by_cases h : i ≤ (tl z).length
  · rw [Nat.min_eq_left h]
    by_cases h2 : i + k ≤ (tl z).length
    · rw [Nat.min_eq_left h2, Nat.add_sub_cancel_left]
    · rw [Nat.min_eq_right (by omega)]
      rw [List.take_of_length_le (by rw [List.length_drop]; omega), List.take_of_length_le (by rw [List.length_drop]; omega)]
  · rw [Nat.min_eq_right (by omega), Nat.min_eq_right (by omega), Nat.sub_self, List.take_zero, List.drop_eq_nil_of_le (by omega), List.take_nil]
/-! ### a list's item at an open place -/
theorem atI_in {α : Type} {xs : List α} {i : Int} (h0 : 0 ≤ i) (h1 : i < xs.length) : ∃ x, atI xs i = some x ∧ x ∈ xs := by
  obtain ⟨n, rfl⟩ : ∃ n : Nat, i = (n : Int) := ⟨i.toNat, by omega⟩
  have hn : n < xs.length := by omega
  exact ⟨xs[n], atI_nat (List.getElem?_eq_getElem hn), List.getElem_mem hn⟩

/-! ### v in a list of texts -/
theorem inV_str (v : Str) : ∀ l : List Str, inV (.str v) (l.map V.str) = decide (v ∈ l)
  | [] => rfl
  | x :: l => by
    show (eqV (.str x) (.str v) || inV (.str v) (l.map V.str)) = _
    rw [inV_str v l]
    show (decide (x = v) || _) = _
    rw [← Bool.decide_or]
    refine decide_eq_decide.mpr ?_
    rw [List.mem_cons]
    constructor
    · rintro (h | h)
      · exact .inl h.symm
      · exact .inr h
    · rintro (h | h)
      · exact .inl h.symm
      · exact .inr h
theorem flat_strs : ∀ zs : List Str, (zs.map V.str).all flatV = true
  | [] => rfl
  | _ :: zs => flat_strs zs
theorem rin {K : PySem.W.Frag} {H : Hp} {p : Addr} (zs : List Str) {v : Str} {Q : VK} (h : SqL K H p (zs.map V.str) ∨ SqT K H p (zs.map V.str)) (q : Q (.bl (decide (v ∈ zs))) H) : rIn K false (.str v) (.ref p) H Q :=
  ⟨p, zs.map V.str, rfl, h, rfl, flat_strs zs, by rw [inV_str]; exact q⟩
theorem rnin {K : PySem.W.Frag} {H : Hp} {p : Addr} (zs : List Str) {v : Str} {Q : VK} (h : SqL K H p (zs.map V.str) ∨ SqT K H p (zs.map V.str)) (q : Q (.bl (!decide (v ∈ zs))) H) : rIn K true (.str v) (.ref p) H Q :=
  ⟨p, zs.map V.str, rfl, h, rfl, flat_strs zs, by rw [inV_str]; exact q⟩
/-! ### the law's stream of numbers: a list of two lists -/
structure Stm (H : Hp) (st d p : Addr) : Prop where
  at_ : H st = some (.lst [.ref d, .ref p])
  dg : ∃ ds : List Int, H d = some (.lst (ds.map V.int)) ∧ ds ≠ []
  pl : ∃ i : Int, H p = some (.lst [.int i])
  n1 : st ≠ p
  n2 : d ≠ p
/-- all but what stands at p is as it was -/
structure Stp (p : Addr) (H H' : Hp) : Prop where
  keep : ∀ b o, b ≠ p → H b = some o → H' b = some o
  pl : ∃ i : Int, H' p = some (.lst [.int i])
theorem Stp.trans {p : Addr} {H H1 H2 : Hp} (a : Stp p H H1) (b : Stp p H1 H2) : Stp p H H2 := ⟨fun c o n e => b.keep c o n (a.keep c o n e), b.pl⟩
theorem Stm.step {H H' : Hp} {st d p : Addr} (x : Stm H st d p) (e : Stp p H H') : Stm H' st d p :=
  ⟨e.keep _ _ x.n1 x.at_, let ⟨ds, h, n⟩ := x.dg; ⟨ds, e.keep _ _ x.n2 h, n⟩, e.pl, x.n1, x.n2⟩
theorem Stm.refl {H : Hp} {st d p : Addr} (x : Stm H st d p) : Stp p H H := ⟨fun _ _ _ e => e, x.pl⟩
theorem Stm.same {H H' : Hp} {st d p : Addr} (x : Stm H st d p) (e : Same H H') : Stp p H H' := ⟨fun b o _ h => e b o h, let ⟨i, h⟩ := x.pl; ⟨i, e _ _ h⟩⟩
theorem Stp.same {p : Addr} {H H1 H2 : Hp} (a : Stp p H H1) (e : Same H1 H2) : Stp p H H2 := ⟨fun b o n h => e _ _ (a.keep b o n h), let ⟨i, h⟩ := a.pl; ⟨i, e _ _ h⟩⟩
theorem Stp.tup {p : Addr} {H H' : Hp} {b : Addr} {xs : List V} (a : Stp p H H') {i : Int} (hp : H p = some (.lst [.int i])) (h : H b = some (.tup xs)) : H' b = some (.tup xs) :=
  a.keep b _ (ne_of h hp (by intro z; cases z)) h
theorem Stp.sqT {K : PySem.W.Frag} {p : Addr} {H H' : Hp} {b : Addr} {xs : List V} (a : Stp p H H') {i : Int} (hp : H p = some (.lst [.int i])) (h : SqT K H b xs) : SqT K H' b xs := by
  rcases h with (h | ⟨o, h⟩) | h
  · exact .inl (.inl (a.tup hp h))
  · exact .inl (.inr ⟨o, a.keep _ _ (ne_of h hp (by intro z; cases z)) h⟩)
  · exact .inr h
theorem Stp.free {p : Addr} {H H' : Hp} (a : Stp p H H') {b : Addr} (h : H' b = none) (n : b ≠ p) : H b = none := by
  cases e : H b with
  | none => rfl
  | some o =>
    have h2 := a.keep _ _ n e
    rw [h] at h2
    cases h2
theorem Stp.ne {p : Addr} {H H' : Hp} (a : Stp p H H') {b : Addr} (h : H' b = none) : b ≠ p := by
  obtain ⟨i, e⟩ := a.pl
  exact (ne_of_none e h).symm
/-- what is put at a new place behind a step -/
theorem Stp.upd {p : Addr} {H H' : Hp} (a : Stp p H H') {b : Addr} {o : HO} (h : H b = none) (n : b ≠ p) : Stp p H (upd H' b o) :=
  ⟨fun c u nc e => by rw [upd_ne (ne_of_none e h)]; exact a.keep _ _ nc e, let ⟨i, e⟩ := a.pl; ⟨i, by rw [upd_ne n.symm]; exact e⟩⟩
/-- p was free before: then nothing that stood is changed -/
theorem Stp.fresh {p : Addr} {H0 H H' : Hp} (a : Stp p H H') (s : Same H0 H) (h : H0 p = none) : Same H0 H' := fun b o e => a.keep b o (ne_of_none e h) (s b o e)
end Bs
namespace Bs
open PySem L2 TL NdefX
/-! ### super().__init__(..) in an own exception's __init__ -/
/-- what the written part says of the method at f, of the class C -/
structure SupC (P : Program) (K : PySem.W.Frag) (mg : Str → Option Value) (F : NF) (f cc C : Addr) (sf : Str) : Prop where
  lk : ∃ oc od osl doc pm ctv, K.lookup f = some (⟨oc, od, .func (F.fd doc pm ctv), osl⟩ : Obj)
  hd : ∃ ar : Arg, (F.params.posonlyargs ++ F.params.args).head? = some ar ∧ ar.arg = sf
  code : ∃ (ccl : Value) (cdd : Option Addr) (vs : Array Value) (ccs : Array (Option Value)) (file : Str) (tf : Tok), K.lookup F.c = some (⟨ccl, cdd, .fields vs, ccs⟩ : Obj) ∧ vs[2]? = some (.str file tf) ∧ ((P.main.file : Str) == file) = true
  cl : F.cl = [(("__class__" : Str), cc)]
  cell : ∃ (cl : Value) (cld : Option Addr) (csl : Array (Option Value)), K.lookup cc = some (⟨cl, cld, .cell (some (.ref C)), csl⟩ : Obj)
  cls : ∃ cd, PySem.W.clsIn K C = some cd
  sub : PySem.W.mroIn K C (.ref C) = some true
  sup : mg "super" = none
  ks : F.scope.names.lookup ("super" : Str) = some .globalImplicit
  kc : F.scope.names.lookup ("__class__" : Str) = some .free
  ka : F.scope.names.lookup sf = some .local
  top : (P.main.scope.names.lookup ("super" : Str)).isSome = false
  any : PySem.W.nsIn K PySem.cStatics "thirdparty.any" = some none
  sin : PySem.W.ks_superIn K C C "__init__" = some (some (.builtin "ValueError.__init__"))
  sVE : PySem.W.subIn K (.ref C) (.type "ValueError") = some true

section
variable {CX : CXT} {P : Program} {w : World} {K : PySem.W.Frag} {mg : Str → Option Value} {base : Heap} {N : List Str} {F : NF} {f cc C a : Addr} {A : Around} {outer : List Env} {s0 : Shared} {H0 : Hp} {E : XK} {self : Str} {e : Expr} {es : List Expr} {p0 p1 p2 pos : Pos} {ta : TA}
theorem sup_init {pins : List (Addr × Obj)} {σ : L2.St} {H : Hp} {s : Shared} {Q : VK} {pl : Sem Bool} (S : SupC P K mg F f cc C self) (T : OexC K C) (I : Inv (ncx CX P w K mg base N F f A outer s0 H0 E) pins σ H s)
    (hN : N[0]? = some self) (hσ : σ[0]? = some (some (.ref a))) (ea : H a = some (exo a C none)) (ha : PA (ncx CX P w K mg base N F f A outer s0 H0 E) (e :: es) ta) (h : ta σ H fun vs H1 => vs.length ≤ 1000 ∧ H1 a = some (exo a C none) ∧ Q .non H1)
    (he : starEach (e :: es) (envF F f s0.heap.objs.size) = (false, eval e (envF F f s0.heap.objs.size)) :: starEach es (envF F f s0.heap.objs.size)) (hpl : (backTo pos (starEach es (envF F f s0.heap.objs.size))).any (·.1) = false)
    (hc : eval (.Call (.Attribute (.Call (.Name "super" p0) [] [] p1) "__init__" p2) (e :: es) [] pos) (envF F f s0.heap.objs.size) = (do
      let ov ← attributeBase (.Call (.Name "super" p0) [] [] p1) "__init__" (envF F f s0.heap.objs.size) (eval (.Call (.Name "super" p0) [] [] p1) (envF F f s0.heap.objs.size))
      standAt p2.atName
      let (f', first) ← holding [ov] (getMethod ov "__init__" pl)
      callWith pos f' first (backTo pos (starEach (e :: es) (envF F f s0.heap.objs.size))) [])) :
    wpAt (model P w) (A.deeper (envF F f s0.heap.objs.size)) (.func F.body (envF F f s0.heap.objs.size)) (eval (.Call (.Attribute (.Call (.Name "super" p0) [] [] p1) "__init__" p2) (e :: es) [] pos) (envF F f s0.heap.objs.size))
      (EP (ncx CX P w K mg base N F f A outer s0 H0 E) pins σ Q) (ncx CX P w K mg base N F f A outer s0 H0 E).xe s := by
  have KX : K.In s.heap := I.kIn
  obtain ⟨oc, od, osl, doc, pm, ctv, lk⟩ := S.lk
  obtain ⟨ar, hd, har⟩ := S.hd
  obtain ⟨ccl, cdd, vs, ccs, file, tf, hcode, hvs, hfile⟩ := S.code
  obtain ⟨cl, cld, csl, hcell⟩ := S.cell
  obtain ⟨cd, hcd⟩ := S.cls
  obtain ⟨oD, hD1, hD2⟩ : ∃ oD, s.heap.get? C = some oD ∧ oD.data = .cls cd := by
    unfold PySem.W.clsIn at hcd
    split at hcd
    · rename_i c d cd' sl ho
      cases hcd
      exact ⟨_, KX _ _ ho, rfl⟩
    · cases hcd
  refine ks_wpAt_MethodCall (pl := pl) ?_ hc
  refine ks_wpAt_super_base (env := envF F f s0.heap.objs.size) (f := f) (cc := F.c) S.ks S.kc (by decide +kernel) rfl (KX _ _ lk) rfl hd rfl (KX _ _ hcode) rfl hvs hfile S.top ?_
  obtain ⟨mb, b1, b2⟩ := I.mod.blt
  refine PySem.W.ks_loadName_global (env := envF F f s0.heap.objs.size) I.ok.kind S.ks (Calls.loadGlobal_builtin (env := envF F f s0.heap.objs.size) (I.mod.glob.keeps I.bk) S.sup (b1.keeps I.bk) ((b2 "super" (by decide)).trans (by first | boot_by_name | rfl | kernel_rfl)) ⟨rfl, ?_⟩)
  refine wpAny_loadName_free (env := envF F f s0.heap.objs.size) I.ok.kind S.kc (by show List.lookup _ F.cl = _; rw [S.cl]; rfl) ⟨_, KX _ _ hcell, rfl⟩ ?_
  obtain ⟨m, hns, hl⟩ := I.loc
  obtain ⟨u, ru, lk2⟩ := hl 0 self _ hN hσ (.inl S.ka)
  obtain rfl : u = Value.ref a := ru
  have hm : m self = some (.ref a) := by
    rcases lk2 with ⟨_, z⟩ | ⟨z, _⟩
    · exact z
    · have z2 : F.scope.names.lookup self = some .cell ∨ F.scope.names.lookup self = some .free := z
      rw [S.ka] at z2
      rcases z2 with z2 | z2 <;> cases z2
  rw [har]
  refine wpAny_loadName_local (env := envF F f s0.heap.objs.size) I.ok.kind S.ka hns hm ?_
  refine ks_wpAny_isType_cls hD1 hD2 ⟨rfl, ?_⟩
  obtain ⟨t1, hx⟩ := exo_at I.hok ea
  obtain ⟨hp, g, d, t, os⟩ := s
  refine ks_wpAny_call_super hD1 hD2 hx rfl (fun c z => by cases z) (PySem.W.looks_mroIn KX S.sub) (fun h' e' k => ?_)
  have I1 : Inv (ncx CX P w K mg base N F f A outer s0 H0 E) pins σ H ⟨h', g, d, t, os⟩ := I.kept (t' := t) k
  have sin := S.sin
  unfold PySem.W.ks_superIn at sin
  rw [hcd] at sin
  obtain ⟨t2, hx1⟩ := exo_at I1.hok ea
  have hinst : PySem.W.Looks (model P w) h' (isInstance (.ref a) (.type "ValueError")) true := (PySem.W.InstAt.type (od := none) ⟨hx1, rfl, rfl, trivial⟩).andThen (PySem.W.looks_subIn I1.kIn S.sVE)
  have hne : a ≠ C := fun z => by
    have h2 := k _ _ hD1
    rw [← z, hx1] at h2
    cases h2
    cases hD2
  refine PySem.W.kxs_getMethod PySem.W.kxs_ValueError e' (PySem.W.looks_opaque I1.kIn S.any) (l₀ := cd.mro) (fun A Q E s k q => wpAny_bind ((PySem.W.looks_clsIn I1.kIn hcd) A _ E s k (wpAny_pure q))) rfl I1.kIn sin hinst hne (by decide +kernel) ?_
  have I2 : Inv (ncx CX P w K mg base N F f A outer s0 H0 E) pins σ H ⟨h'.push (PySem.W.kxs_mw "ValueError.__init__" a), g, d, t + 1, os⟩ := I1.kept (t' := t + 1) fun b o q => Heap.get?_push_of_some _ q
  have I3 : Inv (ncx CX P w K mg base N F f A outer s0 H0 E) ((h'.objs.size, PySem.W.kxs_mw "ValueError.__init__" a) :: pins) σ H ⟨h'.push (PySem.W.kxs_mw "ValueError.__init__" a), g, d, t + 1, os⟩ := I2.pins_of fun p hp => by
    rcases List.mem_cons.mp hp with rfl | hp
    · refine ⟨Heap.get?_push_at rfl rfl, I1.hok.fresh (Nat.le_refl _), ?_, I1.nofs (Nat.le_refl _), fun v z => by cases z⟩
      exact (Nat.ne_of_lt I1.lt).symm
    · exact I2.pin p (List.mem_append_right _ hp)
  show wpAny (model P w) _ (callWith pos (.ref h'.objs.size) [] (backTo pos (starEach (e :: es) (envF F f s0.heap.objs.size))) []) _ _ _
  have hrun := ha.run pos _ _ σ H _ I3 h
  rw [show (ncx CX P w K mg base N F f A outer s0 H0 E).env = envF F f s0.heap.objs.size from rfl, he] at hrun
  rw [he]
  refine PySem.W.kxs_callWith (i := "ValueError.__init__") (x := a) (by show (false || (backTo pos (starEach es (envF F f s0.heap.objs.size))).any (·.1)) = false; rw [hpl]; rfl) ?_
  refine PySem.Calls.evalArgs_plain (thn hrun fun us s1 ⟨vs, H1, I4, r1, hl, e1, q⟩ => ⟨(I4.pin _ (List.mem_append_right _ List.mem_cons_self)).1, ?_⟩)
  have hu := (I4.pin _ (List.mem_append_right _ List.mem_cons_self)).1
  have I5 : Inv (ncx CX P w K mg base N F f A outer s0 H0 E) pins σ H1 s1 := I4.pins_of fun p hp => I4.pin p (List.mem_append_right _ (List.mem_cons_of_mem _ hp))
  obtain ⟨nm, q', N', bs, bm, sn, sub, ab, col, dd, k0, k1, k2, k3, k5, hC, hbm⟩ := T.cls
  obtain ⟨t4, ho⟩ := exo_at I5.hok e1
  have hz : us.length ≤ sizeLine := by
    rw [← PySem.Paired.length r1, sizeLine_eq]
    omega
  obtain ⟨hp1, g1, d1, tk1, os1⟩ := s1
  show wpAny (model P w) _ (call (.ref h'.objs.size) us) _ _ _
  refine wpAny_call (codeAny_of_tree ?_)
  show wpAny _ _ (callAny (.ref h'.objs.size) ⟨us, []⟩) _ _ _
  simp only [callAny]
  refine wpAny_bind (wpAny_load hu ?_)
  simp only [PySem.W.kxs_mw, show (Value.type "method-wrapper" == Value.type "method" || Value.type "method-wrapper" == Value.type "builtin_function_or_method" || Value.type "method-wrapper" == Value.type "method-wrapper") = true by decide, if_true]
  refine PySem.W.KFB.if_so (by decide) ?_
  refine wpAny_bind (PySem.W.check_bound_init PySem.F.excBase_ValueError.toExcCallFacts (I5.kIn _ _ hC) ho rfl ?_)
  refine wpAny_bind (wpAny_pure (wpAny_pure ?_))
  refine ⟨plainId_quiet PySem.F.excBase_ValueError.init.plain _, codeAny_builtin PySem.F.excBase_ValueError.initEntry ?_⟩
  refine PySem.W.exc_init_tree (cls := .ref C) (t0 := t4) (dv := none) (c2 := .none) (c3 := .none) (b4 := .bool false) ho hz fun h2 k2 hx2 _ => ?_
  have J := I5.write (t' := tk1) (x := a) (e := a) (o := exo a C none) (by rw [e1]; exact True.intro) (.inl rfl) k2 ⟨_, hx2⟩ (exo_ok hx2)
  have eu : upd H1 a (exo a C none) = H1 := by
    funext b
    by_cases hb : b = a
    · rw [hb, upd_same, e1]
    · rw [upd_ne hb]
  rw [eu] at J
  exact ⟨.non, H1, J, rfl, q⟩

/-- THE RULE: an __init__ that begins with super().__init__(e, ..) -/
theorem fn_super {ps : List Str} {k : Nat} {sp : Sp} {fd : FuncData} {rest : List Stmt} {pE : Pos} (S : SupC P K mg F f cc C self) (T : OexC K C) (hcd : PySem.W.codeIn K (.ref F.c) F.qual = true) (Sc : NScope N ps [("__class__" : Str)] F.scope)
    (hfd : ∃ (oc : Value) (od : Option Addr) (osl : Array (Option Value)) (doc pm ctv : Value), fd = F.fd doc pm ctv ∧ K.lookup f = some (⟨oc, od, .func (F.fd doc pm ctv), osl⟩ : Obj))
    (hN : N[0]? = some self) (hb0 : F.body = .Expr (.Call (.Attribute (.Call (.Name "super" p0) [] [] p1) "__init__" p2) (e :: es) [] pos) pE :: rest) (len : ∀ vs H Q E, sp vs H Q E → vs.length = ps.length)
    (he : ∀ L, starEach (e :: es) (envF F f L) = (false, eval e (envF F f L)) :: starEach es (envF F f L)) (hpl : ∀ L, (backTo pos (starEach es (envF F f L))).any (·.1) = false)
    (hc : ∀ L, eval (.Call (.Attribute (.Call (.Name "super" p0) [] [] p1) "__init__" p2) (e :: es) [] pos) (envF F f L) = (do
      let ov ← attributeBase (.Call (.Name "super" p0) [] [] p1) "__init__" (envF F f L) (eval (.Call (.Name "super" p0) [] [] p1) (envF F f L))
      standAt p2.atName
      let (f', first) ← holding [ov] (getMethod ov "__init__" (do return (← importBound (.Call (.Name "super" p0) [] [] p1) (envF F f L)).getD true))
      callWith pos f' first (backTo pos (starEach (e :: es) (envF F f L))) []))
    (hi : ∀ L, interactive (envF F f L) = false) (hsw : ∀ L, swapsWith (.Call (.Attribute (.Call (.Name "super" p0) [] [] p1) "__init__" p2) (e :: es) [] pos) none pE.line (envF F f L) = pure false)
    (hrun : ∀ (A : Around) (outer : List Env) (s : Shared) (H : Hp) (vs : List V) (Q : VK) (E : XK), Room k (A.deeper (envF F f s.heap.objs.size)) → sp vs H Q E → ∃ ta t a, PA (ncx CX P w K mg base N F f A outer s H E) (e :: es) ta ∧ PSs (ncx CX P w K mg base N F f A outer s H E) rest t ∧
      (startF N vs [some (.ref C)])[0]? = some (some (.ref a)) ∧ H a = some (exo a C none) ∧ ta (startF N vs [some (.ref C)]) H fun ws H1 => ws.length ≤ 1000 ∧ H1 a = some (exo a C none) ∧ t { nx := fun _ H' => Q .non H', rt := Q } (startF N vs [some (.ref C)]) H1) :
    FnOk P w K mg base CX (k + 1) f fd ps sp := by
  obtain ⟨oc, od, osl, doc, pm, ctv, rfl, lk⟩ := hfd
  refine ⟨len, fun A outer s H args us vs Q E hr e0 hb r hsp => ?_⟩
  have KX : K.In s.heap := e0.mod.kin.keeps fun b o e => (e0.bs b o e).1
  have hl := len _ _ _ _ hsp
  have lim : s.heap.NoLimit := e0.mod.nolimit.keeps fun b o e => (e0.bs b o e).1
  obtain ⟨cl, cld, csl, hcell⟩ := S.cell
  have hcc : s.heap.IsCell cc (some (.ref C)) := ⟨_, KX _ _ hcell, rfl⟩
  have lone : ∀ y c, F.cl.lookup y = some c → y = ("__class__" : Str) ∧ c = cc := fun y c z => by
    rw [S.cl] at z
    have hm := PySem.mem_of_lookup z
    have hm2 := List.mem_singleton.mp hm
    exact ⟨congrArg Prod.fst hm2, congrArg Prod.snd hm2⟩
  have Cc : CellsAt F.cl [("__class__" : Str)] [some (.ref C)] s.heap H := by
    refine ⟨rfl, fun y c z => ?_, fun x y c h1 h2 => (lone _ _ h1).1.trans (lone _ _ h2).1.symm, fun i y z => ?_⟩
    · obtain ⟨_, rfl⟩ := lone y c z
      exact ⟨(e0.bs _ _ (e0.mod.kin _ _ hcell)).2, _, hcc⟩
    · have hy : y = ("__class__" : Str) := List.mem_singleton.mp (List.mem_of_getElem? z)
      have hi0 : i = 0 := by
        have h1 := (List.getElem?_eq_some_iff.mp z).1
        rw [List.length_singleton] at h1
        omega
      subst hi0
      refine ⟨cc, by rw [hy, S.cl]; rfl, fun v hv => ?_⟩
      cases hv
      exact ⟨.ref C, rfl, hcc⟩
  refine codeAny_call_function hr.depth (KX _ _ lk) rfl Sc.co Sc.gen rfl (PySem.W.codeRec_of KX hcd) (hb _ _ _ _ ?_)
  refine wpAny_newFunctionEnv Sc.nocell (fun ⟨n, _⟩ hy => Sc.par n (List.of_mem_zip hy).1) (fun h₁ hns hsb => ⟨lim.fresh _ hsb, ?_⟩) Sc.kind
  show codeAny _ _ (.func F.body (envF F f s.heap.objs.size)) _ _
  have kp : ∀ b o, s.heap.get? b = some o → h₁.get? b = some o := fun b o e => hsb.extBut b o (Nat.ne_of_lt (Heap.lt_size e)) (Heap.get?_push_of_some _ e)
  obtain ⟨ta, t, a, hta, ht, hσ, ea, hq⟩ := hrun A outer s H vs Q E (hr.deeper _) hsp
  have I : Inv (ncx CX P w K mg base N F f A outer s H E) [] (startF N vs [some (.ref C)]) H { s with heap := h₁, toks := s.toks + (ps.zip us).length } := inv_startN Sc hr.hd e0 hl r Cc hns kp
  refine ks_codeAny_funcAt ?_
  rw [show execs F.body (envF F f s.heap.objs.size) = execs (.Expr (.Call (.Attribute (.Call (.Name "super" p0) [] [] p1) "__init__" p2) (e :: es) [] pos) pE :: rest) (envF F f s.heap.objs.size) by rw [hb0]]
  refine ks_wpAt_execs_cons ?_
  refine ks_wpAt_Expr_any ?_ (hi _) (hsw _)
  refine wpAt_mono (sup_init (Q := fun _ H1 => t { nx := fun _ H' => Q .non H', rt := Q } (startF N vs [some (.ref C)]) H1) S T I hN hσ ea hta hq (he _) (hpl _) (hc _)) (fun v s1 hv => ?_) fun e s' hs => hs
  obtain ⟨x, H1, I1, _, q⟩ := hv
  refine wpAt_of_wpAny (wpAny_mono (ht.run [] _ _ H1 _ I1 q) (fun fl s' hs => ?_) fun e s' hs => hs)
  have fin : ∀ {σ' : L2.St} {H' : Hp} {v : V} {u : Value}, Inv (ncx CX P w K mg base N F f A outer s H E) [] σ' H' s' → L2.RelV v u → Q v H' → CE outer P w H s Q u s' :=
    fun {σ' H' v u} J rv q => ⟨v, H', J.os, J.bare, J.base, J.hok, rv, q⟩
  cases fl with
  | ret u =>
    obtain ⟨v, σ', H', J, rv, q⟩ := hs
    exact fin J rv q
  | next =>
    obtain ⟨σ', H', J, q⟩ := hs
    exact fin (v := V.non) (u := Value.none) J rfl q
  | brk =>
    obtain ⟨_, _, _, q⟩ := hs
    exact False.elim q
  | cont =>
    obtain ⟨_, _, _, q⟩ := hs
    exact False.elim q
end
end Bs
namespace Bs
open PySem PySem.Spec PyProof.Rows L2 TL
/-! ### raise C(..) where a suite that catches it may call defs: its context is told -/
theorem pmkN_own {X : Cx} {e : Expr} {es : List Expr} {ta : TA} {p pos : Pos} {CX : CXT} {x : Str} {C fI : Addr} {k : Nat} {fd : FuncData} {ps : List Str} {sp : Sp} (T : OexC X.K C) (iC : PySem.W.findIn X.K (.ref C) "__init__" = some (some (.ref fI))) (tI : PySem.W.typeIn X.K (.ref fI) = some (.type "function"))
    (F1 : FnOk X.prog X.w X.K X.mg X.base CX k fI fd ps sp) (hr : Room (k + 1) X.A) (hb : Binds X.K fd ps []) (hx : Passes CX X (fun _ _ _ => False)) (hg : Gl X x) (hm : X.mg x = some (.ref C)) (ha : PA X (e :: es) ta)
    (hdb : (x == ("__debug__" : Str)) = false := by decide) (he : starEach (e :: es) X.env = (false, eval e X.env) :: starEach es X.env := by rfl) (hpl : (backTo pos (starEach es X.env)).any (·.1) = false := by rfl) :
    L2N.PMk X (.Call (.Name x p) (e :: es) [] pos) (tMkO C sp [] ta) := by
  intro pins s σ H Q I h
  obtain ⟨nm, q, N, bs, bm, sn, sub, ab, col, dd, k0, k1, k2, k3, k5, hC, hbm⟩ := T.cls
  refine wpAny_Call_Name_kw (ld_glob I hg hm ?_ hdb)
  refine PySem.W.callWith_K (h₀ := X.base) I.ok.mod.kin T.kC (thn (ha.run pos pins s σ H _ I h) fun us s1 hs1 => ?_) he hpl
  obtain ⟨vs, H1, I1, r1, hz, q1⟩ := hs1
  refine ⟨I1.kIn, ?_⟩
  show wpAny _ _ (call (.ref C) us) _ _ _
  obtain ⟨hp, g, dr, tk, os⟩ := s1
  have hge : hp.objs.size ≤ hp.objs.size + 1 := Nat.le_succ _
  have q2 := q1 (hp.objs.size + 1) (I1.hok.fresh hge)
  have up : ∀ b o, hp.get? b = some o → ((hp.push (PySem.W.kdv_tup us)).push (PySem.HandSPX.excO C hp.objs.size)).get? b = some o := fun b o z => Heap.get?_push_of_some _ (Heap.get?_push_of_some _ z)
  have there : ((hp.push (PySem.W.kdv_tup us)).push (PySem.HandSPX.excO C hp.objs.size)).get? (hp.objs.size + 1) = some (PySem.HandSPX.excO C hp.objs.size) := by heap_get
  have I2 := I1.laid (t' := tk) (o := exo (hp.objs.size + 1) C none) up hge (exo_ok there)
  have r2 : Vals (V.ref (hp.objs.size + 1) :: (vs ++ [])) (Value.ref (hp.objs.size + 1) :: us) := .cons rfl (by rw [List.append_nil]; exact r1)
  have hl : (Value.ref (hp.objs.size + 1) :: us ++ []).length = ps.length := by
    rw [List.append_nil]
    exact (r2.length).symm.trans (F1.len _ _ _ _ q2)
  have hB := hb ⟨(hp.push (PySem.W.kdv_tup us)).push (PySem.HandSPX.excO C hp.objs.size), g, dr, tk, os⟩ (Value.ref (hp.objs.size + 1) :: us) I2.kIn hl
  rw [List.append_nil] at hB
  have hus : us.length ≤ sizeLine := by
    rw [← PySem.Paired.length r1, sizeLine_eq]
    omega
  refine wpAny_call (PySem.HandSPX.call_own PySem.F.excBase_ValueError (fun Y => PySem.HandSPX.refsVE_contains Y bm hbm) (I1.kIn _ _ hC) (PySem.W.looks_findIn I1.kIn iC) (fun self => PySem.W.bind_fn I1.kIn self tI) hus
    (codeAny_mono (F1.run _ X.stack _ _ ⟨Value.ref (hp.objs.size + 1) :: us, []⟩ (Value.ref (hp.objs.size + 1) :: us) _ _ (fun _ _ _ => False) (hr.make C us []) (I2.env0.make C us []) hB r2 q2) fun r s' hq' => ?_))
  cases r with
  | error er => exact hx pins σ _ _ er s' I2 hq'
  | ok fl =>
    cases fl with
    | ret u =>
      obtain ⟨v, H2, os2, bare2, un2, hok2, rv, ev, d, fs, ea, ed, hd1, q3⟩ := hq'
      subst ev
      obtain ⟨h2, g2, d2, t2, os'⟩ := s'
      refine ⟨rv, ?_⟩
      obtain ⟨t0, G, J, kG, ge, hoe, na⟩ := mk_end0 (d2 := d2) (t2 := t2) I1 hge up un2 hok2 os2 bare2 ea ed hd1
      exact ⟨_, _, _, ⟨G, g2, d2, t2, os'⟩, _, .ref C, some d, rfl, J, kG, ge, hoe, ⟨rfl, rfl, fun vs z => by cases z; rfl⟩, rfl, rfl, na, rfl, bare2, raises_own T.exC T.tyC, q3⟩
    | next => exact False.elim hq'
    | brk => exact False.elim hq'
    | cont => exact False.elim hq'
/-! ### isinstance of a caught error that has fields -/
def rIsD (K : PySem.W.Frag) (D a : Addr) (cls : Value) (d : Option Addr) : List V → Hp → VK → Prop := fun xs H Q => cls = .ref D ∧ ∃ (c : V) (cv : Value) (b : Bool) (dd : Addr) (fs : List (Str × V)), xs = [.ref a, c] ∧ (∀ u, RelV c u → u = cv) ∧ PySem.W.kitOne K (.ref D) cv = some b ∧ d = some dd ∧ H dd = some (.xd fs) ∧ Q (.bl b) H
theorem call_isD {X : Cx} {a D : Addr} {oe : Obj} {cls : Value} {d : Option Addr} {pn : List (Addr × Obj)} (C : ExcC X.K D) (hz : Zc cls d oe) (hf : ∃ vs, oe.data = .fields vs) : CallR (X.suite a ((a, oe) :: pn)) (.builtin "isinstance") (rIsD X.K D a cls d) := by
  intro pins s σ H xs us Q I r h
  obtain ⟨rfl, c, cv, b, dd, fs, rfl, hcv, e, rfl, hdd, q⟩ := h
  cases r with
  | cons rx rr =>
    cases rr with
    | cons rt rr =>
      cases rr
      cases rx
      have ec := hcv _ rt
      subst ec
      obtain ⟨ha, _⟩ := I.pin (a, oe) (List.mem_append_left _ List.mem_cons_self)
      obtain ⟨vs, hv⟩ := hf
      obtain ⟨mA, hns, _⟩ := (show ObjOk X.prog X.w H s.heap dd (.xd fs) from I.hok dd _ hdd)
      obtain ⟨od, ho, _⟩ := lookIn_ns hns
      have J : PySem.W.InstAt s.heap a oe D (some od) := ⟨ha, hz.1, by unfold PySem.W.notCls; rw [hv] <;> rfl, by rw [hz.2]; exact ho⟩
      have hcl : (PySem.W.clsIn X.K D).isSome = true := by
        obtain ⟨cd, hc, _⟩ := PySem.W.any_some C.hd
        rw [hc]
        rfl
      exact PySem.W.kia_one (PySem.W.kitx_exc hcl C.hg C.hk C.hs C.ha C.hn C.ht C.hm) I.kIn J e (fun z => nomatch z) fun tk => ⟨.bl b, H, I.kept (t' := tk) fun _ _ z => z, rfl, q⟩
/-! ### a def that lets errors out, their context told -/
theorem _root_.L2.Fun.okN {P : Program} {w : World} {K : PySem.W.Frag} {mg : Str → Option Value} {base : Heap} {x qual : Str} {st : Stmt} {f : Addr} {fd : FuncData} {N ps : List Str} {k : Nat} {sp : Sp} (F : L2.Fun K x qual st f fd) (S : FnScope N ps (defScope st)) (len : ∀ vs H Q E, sp vs H Q E → vs.length = ps.length)
    (hbody : ∀ (cdv : Value) (A : Around) (outer : List Env) (s : Shared) (H : Hp) (vs : List V) (Q : VK) (E : XK), Room k (A.deeper (envOfC qual (defScope st) s.heap.objs.size f cdv)) → sp vs H Q E →
      ∃ t, PSs (cxOf (L2N.CX P w) P w K mg base N qual (defScope st) f cdv A outer s H E) (defBody st) t ∧ t { nx := fun _ H' => Q .non H', rt := Q } (start N vs) H) : FnOk P w K mg base (L2N.CX P w) (k + 1) f fd ps sp := by
  obtain ⟨oc, od, kV, doc, pm, an, cdv, ct, osl, rfl, lk, hcd⟩ := F.ex
  exact fn_of lk hcd S len fun A outer s H vs Q E hr hsp => hbody cdv A outer s H vs Q E hr hsp
theorem takesN0 {X : Cx} : L2N.Takes X (fun _ _ _ _ => False) := fun _ _ ⟨_, _, _, _, _, _, _, _, _, _, _, _, _, _, _, _, w⟩ => w.elim
/-- a def that is called within an except suite -/
theorem _root_.L2.Fun.okH {CX : CXT} {P : Program} {w : World} {K : PySem.W.Frag} {mg : Str → Option Value} {base : Heap} {x qual : Str} {st : Stmt} {f : Addr} {fd : FuncData} {N ps : List Str} {k : Nat} {sp : Sp} (F : L2.Fun K x qual st f fd) (S : FnScope N ps (defScope st)) (len : ∀ vs H Q E, sp vs H Q E → vs.length = ps.length)
    (hbody : ∀ (cdv : Value) (A : Around) (outer : List Env) (s : Shared) (H : Hp) (vs : List V) (Q : VK) (E : XK) (p : Addr × Obj), L2H.RoomH k (A.deeper (envOfC qual (defScope st) s.heap.objs.size f cdv)) → sp vs H Q E →
      ∃ t, PSs (L2H.cxH CX P w K mg base N qual (defScope st) f cdv A outer s H E p) (defBody st) t ∧ t { nx := fun _ H' => Q .non H', rt := Q } (start N vs) H) : L2H.FnH P w K mg base CX (k + 1) f fd ps sp := by
  obtain ⟨oc, od, kV, doc, pm, an, cdv, ct, osl, rfl, lk, hcd⟩ := F.ex
  exact L2H.fn_ofH lk hcd S len fun A outer s H vs Q E p _ hr hsp => hbody cdv A outer s H vs Q E p hr hsp
end Bs
namespace Bs
open PySem L2 TL PySem.Spec PyProof.Rows

/-! ### tuple * int, also 0 and 1 times -/
theorem tuple_mul0 (l : Addr) (items : Array Value) (n : Nat) (dd : Option Addr) (sl : Array (Option Value)) (u : Tok) (c1 : (items.isEmpty || (0 : Int) == 1) = false) :
    Meets (Builtin.«tuple.__mul__» ⟨[.ref l, .int 0 u], []⟩) (fun _ R s => s.heap.get? l = some { cls := .type "tuple", dict := dd, data := .seq items n, slots := sl } ∧
      R (.ok (.ret (Value.ref s.heap.objs.size))) { s with heap := s.heap.push { cls := Value.type "tuple", data := Data.seq #[] }, toks := s.toks }) :=
  .of_wp fun prog w A R s h => by
    obtain ⟨hp, g, d, tk, os⟩ := s
    obtain ⟨hl, h⟩ := h
    have f1 := AutoSeq1.idx_int
    wp_walk using AutoSeq1.wpAny_loadPart' hl
    repeat (first
      | (refine wpAny_ite_false (decide_eq_false (by decide)) ?_; wp_walk using AutoSeq1.wpAny_loadPart' hl)
      | (refine wpAny_ite_false (decide_eq_false (by rw [c1]; exact Bool.false_ne_true)) ?_; wp_walk using AutoSeq1.wpAny_loadPart' hl))
    exact ⟨_, rfl, h⟩
theorem tuple_mul1 (l : Addr) (items : Array Value) (n : Nat) (dd : Option Addr) (sl : Array (Option Value)) (u : Tok) (c1 : (items.isEmpty || (1 : Int) == 1) = true) :
    Meets (Builtin.«tuple.__mul__» ⟨[.ref l, .int 1 u], []⟩) (fun _ R s => s.heap.get? l = some { cls := .type "tuple", dict := dd, data := .seq items n, slots := sl } ∧
      R (.ok (.ret (Value.ref l))) s) :=
  .of_wp fun prog w A R s h => by
    obtain ⟨hp, g, d, tk, os⟩ := s
    obtain ⟨hl, h⟩ := h
    have f1 := AutoSeq1.idx_int
    wp_walk using AutoSeq1.wpAny_loadPart' hl
    repeat (first
      | (refine wpAny_ite_true (decide_eq_true (by rw [c1])) ?_; wp_walk using AutoSeq1.wpAny_loadPart' hl)
      | (refine wpAny_ite_false (decide_eq_false (by decide)) ?_; wp_walk using AutoSeq1.wpAny_loadPart' hl))
    exact ⟨_, rfl, h⟩
def rRepA (K : PySem.W.Frag) : R2 := fun x y H Q => ∃ (l : Addr) (k : Nat) (xs : List V), x = .ref l ∧ y = .int (k : Int) ∧ SqT K H l xs ∧ xs ≠ [] ∧ k ≤ 1000 ∧ xs.length ≤ 1000 ∧ ∀ H' p, Same H H' → SqT K H' p (List.replicate k xs).flatten → Q (.ref p) H'
section
variable {X : Cx}
theorem op_repA : OpR X (binaryOp .Mult) (rRepA X.K) := by
  intro pins s σ H x y v u Q I rx ry h
  obtain ⟨l, k, xs, rfl, rfl, hT, hne, h2, hz, q⟩ := h
  by_cases hk : 2 ≤ k
  · exact op_repT pins s σ H _ _ v u Q I rx ry ⟨l, _, xs, rfl, rfl, hT, hne, by omega, by omega, hz, fun p np => q _ p (same_upd np) (by rw [Int.toNat_natCast]; exact SqT.of upd_same)⟩
  · cases rx
    obtain ⟨t, rfl⟩ := ry
    obtain ⟨its, r, ⟨⟨cls, dd, data, sl⟩, ho, hc, n, hd⟩, hs⟩ := I.tuple hT
    simp only at hc hd
    subst hc hd
    have hle : its.length = xs.length := r.length.symm
    have hn : its ≠ [] := fun e => hne (by
      rw [e] at hle
      exact List.eq_nil_of_length_eq_zero hle.symm)
    have hi : its.toArray.isEmpty = false := by
      cases its with
      | nil => exact absurd rfl hn
      | cons a b => rfl
    by_cases hk0 : k = 0
    · subst hk0
      have c1 : (its.toArray.isEmpty || (0 : Int) == 1) = false := by rw [hi]; rfl
      refine wpAny_binaryOp_repeat_ref (T := "tuple") (U := "int") (by decide) ⟨_, ho, rfl⟩ (fun s' => typeIs_int s' _ t) noFill_tuple_mul F.fills_int_mul F.slot_int_rmul repeat_tuple F.slot_int_index.lookup
        (call_meets F.slot_int_rmul (typeIs_int s _ t) F.entry_int_rmul (F.args_int_rmul_2 _ _) (L2.int_rmul_tuple _ t l its.toArray n dd sl)
          ⟨ho, rfl, ⟨_, ho, rfl⟩, call_meets F.slot_tuple_mul ⟨_, ho, rfl⟩ F.entry_tuple_mul (F.args_tuple_mul_2 _ _) (tuple_mul0 l its.toArray n dd sl t c1) ⟨ho, ?_⟩⟩)
      refine ⟨.ref s.heap.objs.size, _, I.laid (t' := s.toks) (o := .tup []) (fun b ob q => Heap.get?_push_of_some _ q) (Nat.le_refl _) ?_, rfl, q _ _ (same_upd (I.hok.fresh (Nat.le_refl _))) (SqT.of upd_same)⟩
      exact ⟨Nat.zero_le _, [], .nil, IsTup.new _ _⟩
    · have hk1 : k = 1 := by omega
      subst hk1
      have c1 : (its.toArray.isEmpty || (1 : Int) == 1) = true := by rw [hi]; rfl
      refine wpAny_binaryOp_repeat_ref (T := "tuple") (U := "int") (by decide) ⟨_, ho, rfl⟩ (fun s' => typeIs_int s' _ t) noFill_tuple_mul F.fills_int_mul F.slot_int_rmul repeat_tuple F.slot_int_index.lookup
        (call_meets F.slot_int_rmul (typeIs_int s _ t) F.entry_int_rmul (F.args_int_rmul_2 _ _) (L2.int_rmul_tuple _ t l its.toArray n dd sl)
          ⟨ho, rfl, ⟨_, ho, rfl⟩, call_meets F.slot_tuple_mul ⟨_, ho, rfl⟩ F.entry_tuple_mul (F.args_tuple_mul_2 _ _) (tuple_mul1 l its.toArray n dd sl t c1) ⟨ho, ?_⟩⟩)
      refine ⟨.ref l, H, I, rfl, q _ _ (Same.refl _) ?_⟩
      rw [show (List.replicate 1 xs).flatten = xs by simp]
      exact hT
end
/-! ### tuples of ints: without the last, with one more -/
theorem sIx_m1 (n : Nat) : HT.sIx (n + 1) (n + 1) (some (-1)) = n := by
  show (if (-1 : Int) < 0 then ((-1 : Int) + ((n + 1 : Nat) : Int)).toNat else min (-1 : Int).toNat (n + 1)) = n
  rw [if_pos (by decide)]
  omega
theorem sl_init {K : PySem.W.Frag} {H : Hp} {a : Addr} {xs : List V} {x : V} {Q : VK} (h : SqT K H a (xs ++ [x])) (q : ∀ H' p, Same H H' → SqT K H' p xs → Q (.ref p) H') : rSlA K (.ref a) none (some (-1)) H Q := by
  refine ⟨a, _, rfl, h, fun z => ?_, fun _ p np => q _ p (same_upd np) ?_⟩
  · have z2 := z.2
    rw [List.length_append, List.length_singleton, sIx_m1] at z2
    omega
  · have ec : cutV (xs ++ [x]) none (some (-1)) = xs := by
      unfold cutV
      rw [HT.sIx_none, List.drop_zero, List.length_append, List.length_singleton, sIx_m1, Nat.sub_zero, List.take_append_of_le_length (Nat.le_refl _), List.take_of_length_le (Nat.le_refl _)]
    rw [ec]
    exact SqT.of upd_same
theorem cat_sm {K : PySem.W.Frag} {H : Hp} {a b : Addr} {xs ys : List V} {Q : VK} (h : SqT K H a xs) (h2 : SqT K H b ys) (hl : xs.length + ys.length ≤ 100000) (q : ∀ H' p, Same H H' → SqT K H' p (xs ++ ys) → Q (.ref p) H') : rCatA K (.ref a) (.ref b) H Q := by
  refine ⟨a, b, xs, ys, rfl, rfl, h, h2, Nat.le_trans hl (by decide), fun z => ?_, fun _ z => ?_, fun _ _ p np => q _ p (same_upd np) (SqT.of upd_same)⟩
  · subst z
    exact q H b (Same.refl _) h2
  · subst z
    rw [List.append_nil] at q
    exact q H a (Same.refl _) h
theorem atI_lastI {xs : List Int} {x : Int} : atI ((xs ++ [x]).map V.int) (-1) = some (V.int x) := by
  rw [List.map_append]
  exact atI_last _ _
theorem kit_self {K : PySem.W.Frag} {C : Addr} : PySem.W.kitOne K (.ref C) (.ref C) = some true := by
  unfold PySem.W.kitOne
  rw [show (Value.ref C == Value.ref C) = true from beq_self_eq_true _, if_pos rfl]
/-! ### comprehensions over tuples and lists -/
theorem lc_yat {J : It} {n : Nat} {G : Hp → Prop} {xs : List V} (w : Walk J n G (YAt xs)) (hl : xs.length = n) {g : TG} {te : TE} {vs : List Nat} {σ : L2.St} {H1 : Hp} {D : Addr} {Qd : Hp → Prop} (f : V → V) (hD : H1 D = none) (hn : n ≤ 1000000)
    (hG : ∀ H', Same H1 H' → G H')
    (hs : ∀ x H' (R : VK), x ∈ xs → Same H1 H' → (∀ H4, Same H' H4 → R (f x) H4) → g x (wipe σ vs) H' fun σ2 H2 => wipe σ2 vs = wipe σ vs ∧ te σ2 H2 R)
    (hd : ∀ H', Same H1 H' → H' D = some (.lst (xs.map f)) → Qd H') : LoopC J g tYes te vs σ H1 D Qd := by
  refine lc_ys w (xs.map f) hD hn (by rw [List.length_map, hl]) hG yat_same (fun i x y H1 H2 R hi hy s1 yy k => ?_) hd
  obtain ⟨rfl, e⟩ := yat_at yy
  rw [List.getElem?_map, e] at hy
  cases hy
  exact hs x _ R (List.mem_of_getElem? e) s1 k
theorem lc_tupI {K : PySem.W.Frag} {a : Addr} {xs : List Int} {g : TG} {te : TE} {vs : List Nat} {σ : L2.St} {H1 : Hp} {D : Addr} {Qd : Hp → Prop} (f : Int → Int) (hX : SqT K H1 a (xs.map V.int)) (hD : H1 D = none) (hn : xs.length ≤ 1000000)
    (hs : ∀ x H' (R : VK), x ∈ xs → Same H1 H' → (∀ H4, Same H' H4 → R (.int (f x)) H4) → g (.int x) (wipe σ vs) H' fun σ2 H2 => wipe σ2 vs = wipe σ vs ∧ te σ2 H2 R)
    (hd : ∀ H', Same H1 H' → H' D = some (.lst ((xs.map f).map V.int)) → Qd H') : LoopC (Itt K a) g tYes te vs σ H1 D Qd := by
  refine lc_yat (walk_tup (xs := xs.map V.int)) rfl (fun v => match v with | .int x => .int (f x) | v => v) hD (by rw [List.length_map]; exact hn) (fun H' s => sameT s hX) (fun x H' R hx s1 k => ?_) (fun H' s' e => hd H' s' ?_)
  · obtain ⟨z, hz, rfl⟩ := List.mem_map.mp hx
    exact hs z H' R hz s1 k
  · rw [e, List.map_map, List.map_map]
    rfl
theorem lc_lstI {K : PySem.W.Frag} {a : Addr} {xs : List Int} {g : TG} {te : TE} {vs : List Nat} {σ : L2.St} {H1 : Hp} {D : Addr} {Qd : Hp → Prop} (f : Int → Int) (hX : SqL K H1 a (xs.map V.int)) (hD : H1 D = none) (hn : xs.length ≤ 1000000)
    (hs : ∀ x H' (R : VK), x ∈ xs → Same H1 H' → (∀ H4, Same H' H4 → R (.int (f x)) H4) → g (.int x) (wipe σ vs) H' fun σ2 H2 => wipe σ2 vs = wipe σ vs ∧ te σ2 H2 R)
    (hd : ∀ H', Same H1 H' → H' D = some (.lst ((xs.map f).map V.int)) → Qd H') : LoopC (Itl K a) g tYes te vs σ H1 D Qd := by
  refine lc_yat (walk_list (xs := xs.map V.int)) rfl (fun v => match v with | .int x => .int (f x) | v => v) hD (by rw [List.length_map]; exact hn) (fun H' s => s.seq hX) (fun x H' R hx s1 k => ?_) (fun H' s' e => hd H' s' ?_)
  · obtain ⟨z, hz, rfl⟩ := List.mem_map.mp hx
    exact hs z H' R hz s1 k
  · rw [e, List.map_map, List.map_map]
    rfl
/-- with a test -/
theorem lc_yatF {J : It} {n : Nat} {G : Hp → Prop} {xs : List V} (w : Walk J n G (YAt xs)) (hl : xs.length = n) {g : TG} {tt : TT} {te : TE} {vs : List Nat} {σ : L2.St} {H1 : Hp} {D : Addr} {Qd : Hp → Prop} (b : V → Bool) (f : V → V) (hD : H1 D = none) (hn : n ≤ 1000000)
    (hG : ∀ H', Same H1 H' → G H')
    (hs : ∀ x H' (N : Hp → Prop) (R : VK), x ∈ xs → Same H1 H' → (b x = false → ∀ H4, Same H' H4 → N H4) → (b x = true → ∀ H4, Same H' H4 → R (f x) H4) → g x (wipe σ vs) H' fun σ2 H2 => wipe σ2 vs = wipe σ vs ∧ tt σ2 H2 fun b H3 => if b = true then te σ2 H3 R else N H3)
    (hd : ∀ H', Same H1 H' → H' D = some (.lst ((xs.filter b).map f)) → Qd H') : LoopC J g tt te vs σ H1 D Qd := by
  refine loopc_it w (fun i H => Same H1 H ∧ H D = some (.lst (((xs.take i).filter b).map f))) ⟨same_upd hD, upd_same⟩ (fun i H _ p => hG H p.1) (fun i x H H' hi p y => ?_) (fun H p => hd H p.1 ?_)
  · obtain ⟨rfl, e⟩ := yat_at y
    have hx := List.mem_of_getElem? e
    have hi' : i < xs.length := by omega
    have et : xs.take (i + 1) = xs.take i ++ [x] := by
      rw [List.take_succ_eq_append_getElem hi', (List.getElem?_eq_some_iff.mp e).2]
    refine hs x _ _ _ hx p.1 (fun hb H4 s4 => ⟨p.1.trans s4, ?_⟩) (fun hb H4 s4 => ⟨_, s4 _ _ p.2, ?_, same_upd2 (p.1.trans s4) hD, ?_⟩)
    · rw [et, List.filter_append, List.filter_cons, hb, if_neg (by decide), List.filter_nil, List.append_nil]
      exact s4 _ _ p.2
    · rw [List.length_map]
      exact smallM (Nat.le_trans (List.length_filter_le _ _) (by rw [List.length_take]; omega))
    · rw [upd_same, et, List.filter_append, List.filter_cons, hb, if_pos rfl, List.filter_nil, List.map_append]
      rfl
  · rw [p.2, ← hl, List.take_length]
theorem lc_tupIF {K : PySem.W.Frag} {a : Addr} {xs : List Int} {g : TG} {tt : TT} {te : TE} {vs : List Nat} {σ : L2.St} {H1 : Hp} {D : Addr} {Qd : Hp → Prop} (b : Int → Bool) (hX : SqT K H1 a (xs.map V.int)) (hD : H1 D = none) (hn : xs.length ≤ 1000000)
    (hs : ∀ x H' (N : Hp → Prop) (R : VK), x ∈ xs → Same H1 H' → (b x = false → ∀ H4, Same H' H4 → N H4) → (b x = true → ∀ H4, Same H' H4 → R (.int x) H4) → g (.int x) (wipe σ vs) H' fun σ2 H2 => wipe σ2 vs = wipe σ vs ∧ tt σ2 H2 fun b H3 => if b = true then te σ2 H3 R else N H3)
    (hd : ∀ H', Same H1 H' → H' D = some (.lst ((xs.filter b).map V.int)) → Qd H') : LoopC (Itt K a) g tt te vs σ H1 D Qd := by
  refine lc_yatF (walk_tup (xs := xs.map V.int)) rfl (fun v => match v with | .int x => b x | _ => false) (fun v => v) hD (by rw [List.length_map]; exact hn) (fun H' s => sameT s hX) (fun x H' N R hx s1 k1 k2 => ?_) (fun H' s' e => hd H' s' ?_)
  · obtain ⟨z, hz, rfl⟩ := List.mem_map.mp hx
    exact hs z H' N R hz s1 k1 k2
  · rw [e, List.map_id'', List.filter_map]
    · rfl
    · intro _; rfl
/-- walked as a list or as a tuple -/
def iOr (w1 w2 : TI) : TI := fun σ H R => w1 σ H R ∨ w2 σ H R
theorem pi_or {X : Cx} {tg it : Expr} {w1 w2 : TI} (h1 : PI X tg it w1) (h2 : PI X tg it w2) : PI X tg it (iOr w1 w2) := ⟨fun pins s σ H R I h => h.elim (h1.run pins s σ H R I) (h2.run pins s σ H R I)⟩
end Bs
namespace Bs
open PySem L2 TL PySem.Spec PyProof.Rows PySem.SeqAt

/-! ### one pair is less than another one whose first items are equal -/
/-- two values compared by < -/
def LtAt (A : Around) (s : Shared) (y x : Value) (r : Bool) : Prop :=
  ∀ (prog : Program) (w : World) (Er Qr : Value → Shared → Prop), Qr (.bool r) s → wpAny (model prog w) A (richCompare .Lt y x) Qr Er s
theorem pair_lt (l b : Addr) (p q u v : Value) (n n2 : Nat) (dd dd2 : Option Addr) (sl sl2 : Array (Option Value)) (c r : Bool) :
    Meets (Builtin.«tuple.__lt__» ⟨[.ref l, .ref b], []⟩)
      (fun A R s => (s.heap.get? l = some { cls := .type "tuple", dict := dd, data := .seq #[p, q] n, slots := sl } ∧ s.heap.get? b = some { cls := .type "tuple", dict := dd2, data := .seq #[u, v] n2, slots := sl2 }) ∧
        EqAt A.in1 s p u true ∧ EqAt A.in1 s q v c ∧ (c = false → LtAt A.in1 s q v r) ∧ R (.ok (.ret (.bool (if c then false else r)))) s) :=
  .of_wp fun prog w A R s h => by
    obtain ⟨hp, g, d, tk, os⟩ := s
    obtain ⟨⟨hl, hb⟩, e1, e2, e3, hR⟩ := h
    have f2 := AutoSeq1.sub_tuple_tuple
    wp_walk using AutoSeq1.wpAny_loadPart' hl, AutoSeq1.wpAny_loadPart' hb, wpAny_forIn_list _ (fun rest k s' => (k.1 = none ∧ s' = ⟨hp, g, d, tk, os⟩) ∧ (rest = [(p, u), (q, v)] ∨ rest = [(q, v)] ∨ (rest = [] ∧ c = true))) _
    case turn =>
      rintro ⟨y, x⟩ rest k s' ⟨⟨hk, rfl⟩, hz⟩
      rcases hz with hz | hz | ⟨hz, _⟩
      · injection hz with h1 h2
        injection h1 with h3 h4
        subst h3 h4 h2
        refine wpAny_bind (e1 prog w _ _ ?_)
        wp_walk
        exact ⟨⟨rfl, rfl⟩, .inr (.inl rfl)⟩
      · injection hz with h1 h2
        injection h1 with h3 h4
        subst h3 h4 h2
        refine wpAny_bind (e2 prog w _ _ ?_)
        cases c with
        | true =>
          wp_walk
          exact ⟨⟨rfl, rfl⟩, .inr (.inr ⟨rfl, rfl⟩)⟩
        | false =>
          have hr := e3 rfl prog w
          wp_walk using hr
          exact ⟨_, rfl, by simpa using hR⟩
      · cases hz
    case fin =>
      rintro ⟨k1, k2⟩ s' ⟨⟨hk, rfl⟩, hz⟩
      simp only at hk
      subst hk
      rcases hz with hz | hz | ⟨_, rfl⟩
      · cases hz
      · cases hz
      · wp_walk
        exact ⟨_, rfl, by simpa [Builtin.Tuple.tupleCompareSizes] using hR⟩
    case h =>
      exact ⟨⟨rfl, rfl⟩, .inl rfl⟩

/-! ### keys of any depth, in the abstract heap -/
mutual
inductive Nk (K : PySem.W.Frag) (H : Hp) : V → NestedKey → Prop
  | non : Nk K H .non .none
  | int (i : Int) : Nk K H (.int i) (.num i)
  | str (z : Str) : Nk K H (.str z) (.text z)
  | tup {a : Addr} {xs : List V} {ks : List NestedKey} : SqT K H a xs → NkAll K H xs ks → Nk K H (.ref a) (.tup ks)
inductive NkAll (K : PySem.W.Frag) (H : Hp) : List V → List NestedKey → Prop
  | nil : NkAll K H [] []
  | cons {x : V} {xs : List V} {k : NestedKey} {ks : List NestedKey} : Nk K H x k → NkAll K H xs ks → NkAll K H (x :: xs) (k :: ks)
end
section
variable {X : Cx} {pins : List (Addr × Obj)} {σ : L2.St} {H : Hp} {s : Shared}
mutual
theorem Nk.is (I : Inv X pins σ H s) : ∀ (k : NestedKey) (x : V) (u : Value), Nk X.K H x k → RelV x u → NestedIs s.heap k u
  | .none, _, _, h, r => by
    cases h
    cases r
    exact .none
  | .num i, _, _, h, r => by
    cases h
    obtain ⟨t, rfl⟩ := r
    exact .int i t
  | .text z, _, _, h, r => by
    cases h
    obtain ⟨t, rfl⟩ := r
    exact .text z t
  | .tup ks, _, _, h, r => by
    cases h with
    | tup hT hA =>
      cases r
      obtain ⟨its, rv, ⟨o, ho, hc, n, hd⟩, _⟩ := I.tuple hT
      exact .tup ho hc hd (Nk.isAll I ks _ _ hA rv)
theorem Nk.isAll (I : Inv X pins σ H s) : ∀ (ks : List NestedKey) (xs : List V) (us : List Value), NkAll X.K H xs ks → Vals xs us → NestedAll s.heap ks us
  | [], _, _, h, r => by
    cases h
    cases r
    exact .nil
  | k :: ks, _, _, h, r => by
    cases h with
    | cons h1 h2 =>
      cases r with
      | cons r1 r2 => exact .cons (Nk.is I k _ _ h1 r1) (Nk.isAll I ks _ _ h2 r2)
end
end
mutual
theorem Nk.same {K : PySem.W.Frag} {H H' : Hp} (e : Same H H') : ∀ (k : NestedKey) (x : V), Nk K H x k → Nk K H' x k
  | .none, _, h => by cases h; exact .non
  | .num i, _, h => by cases h; exact .int i
  | .text z, _, h => by cases h; exact .str z
  | .tup ks, _, h => by
    cases h with
    | tup hT hA => exact .tup (sameT e hT) (NkAll.same e ks _ hA)
theorem NkAll.same {K : PySem.W.Frag} {H H' : Hp} (e : Same H H') : ∀ (ks : List NestedKey) (xs : List V), NkAll K H xs ks → NkAll K H' xs ks
  | [], _, h => by cases h; exact .nil
  | k :: ks, _, h => by
    cases h with
    | cons h1 h2 => exact .cons (Nk.same e k _ h1) (NkAll.same e ks _ h2)
end
/-! ### a dict with such keys -/
abbrev NE := NestedKey × Addr × V
def NRel (p : NE) (q : NestedKey × Addr × Value) : Prop := p.1 = q.1 ∧ p.2.1 = q.2.1 ∧ RelV p.2.2 q.2.2
def NdAt (P : Program) (w : World) (a : Addr) (xs : List NE) (h : Heap) : Prop := (a == sysModules) = false ∧ xs.length ≤ sizeLine ∧ ∃ vs, Paired NRel xs vs ∧
  ∃ o es ep, h.get? a = some o ∧ (o.ExactDict ∧ o.data = .dict es ep) ∧ es.toList = vs.map (entryOfKey (nestedKind P w)) ∧ (vs.map (·.1)).Nodup
def NDct (P : Program) (w : World) (a : Addr) (xs : List NE) : HO := .ext (NdAt P w a xs)
def lookN (xs : List NE) (k : NestedKey) : Option V := (xs.find? fun x => decide (x.1 = k)).map (·.2.2)
theorem nrel_look (k : NestedKey) : ∀ {xs : List NE} {vs : List (NestedKey × Addr × Value)}, Paired NRel xs vs → RelO (lookN xs k) ((atKey vs k).map (·.2))
  | _, _, .nil => trivial
  | _, _, .cons (a := x) (b := y) (l₁ := xs) (l₂ := ys) r rs => by
    have ih := nrel_look k rs
    obtain ⟨r1, r2, r3⟩ := r
    unfold lookN atKey at ih ⊢
    rw [List.find?_cons, List.find?_cons, r1]
    by_cases e : y.1 = k
    · rw [decide_eq_true e]
      exact r3
    · rw [decide_eq_false e]
      exact ih
theorem nd_at {P : Program} {w : World} {h h' : Heap} {a : Addr} {xs : List NE} (x : NdAt P w a xs h) (k : ∀ o, h.get? a = some o → h'.get? a = some o) : NdAt P w a xs h' := by
  obtain ⟨y, z, vs, r, o, es, ep, ho, q⟩ := x
  exact ⟨y, z, vs, r, o, es, ep, k o ho, q⟩
theorem nd_obj {P : Program} {w : World} {H : Hp} {h : Heap} {a : Addr} {xs : List NE} (x : NdAt P w a xs h) : ObjOk P w H h a (NDct P w a xs) :=
  ⟨x, (let ⟨_, _, _, _, o, _, _, ho, _⟩ := x; ⟨o, ho⟩), fun _ _ p k => nd_at p k⟩
def KeysIn (K : PySem.W.Frag) (H : Hp) (xs : List NE) : Prop := ∀ x ∈ xs, Nk K H (.ref x.2.1) x.1 ∧ x.1.depth ≤ 8
theorem KeysIn.same {K : PySem.W.Frag} {H H' : Hp} {xs : List NE} (h : KeysIn K H xs) (e : Same H H') : KeysIn K H' xs := fun x hx => ⟨Nk.same e _ _ (h x hx).1, (h x hx).2⟩
section
variable {X : Cx} {pos : Pos}
/-- {}, to be such a dict -/
def tDNewN (P : Program) (w : World) : TE := fun _ H Q => ∀ p, H p = none → Q (.ref p) (upd H p (NDct P w p []))
theorem pe_dnewN : PE X (.Dict [] [] pos) (tDNewN X.prog X.w) := ⟨fun pins s σ H Q I h => by
  have nd : NdAt X.prog X.w s.heap.objs.size [] (s.heap.push { cls := .type "dict", data := .dict #[] }) :=
    ⟨beq_eq_false_iff_ne.mpr (Ne.symm (Nat.ne_of_lt I.big)), Nat.zero_le _, [], .nil, _, #[], 0, Heap.get?_push_size _ rfl, ⟨⟨rfl, rfl, rfl⟩, rfl⟩, rfl, List.nodup_nil⟩
  exact wpAny_Dict_empty ⟨.ref s.heap.objs.size, _, I.laid (t' := s.toks) (fun _ _ q => Heap.get?_push_of_some _ q) (Nat.le_refl _) (nd_obj nd), rfl, h _ (I.hok.fresh (Nat.le_refl _))⟩⟩
theorem nd_paired {xs : List NE} {vs : List (NestedKey × Addr × Value)} (r : Paired NRel xs vs) {x : NE} {y : NestedKey × Addr × Value} (r1 : NRel x y) : Paired NRel (xs ++ [x]) (vs ++ [y]) := by
  induction r with
  | nil => exact .cons r1 .nil
  | cons h _ ih => exact .cons h ih
theorem nd_mem : ∀ {xs : List NE} {vs : List (NestedKey × Addr × Value)}, Paired NRel xs vs → ∀ y ∈ vs, ∃ x ∈ xs, NRel x y
  | _, _, .nil, _, h => by cases h
  | _, _, .cons r rs, y, h => by
    rcases List.mem_cons.mp h with rfl | h
    · exact ⟨_, List.mem_cons_self, r⟩
    · obtain ⟨x, hx, e⟩ := nd_mem rs y h
      exact ⟨x, List.mem_cons_of_mem _ hx, e⟩
theorem nd_len : ∀ {xs : List NE} {vs : List (NestedKey × Addr × Value)}, Paired NRel xs vs → xs.length = vs.length
  | _, _, .nil => rfl
  | _, _, .cons _ rs => congrArg (· + 1) (nd_len rs)
theorem nd_of {pins : List (Addr × Obj)} {σ : L2.St} {H : Hp} {s : Shared} {a : Addr} {xs : List NE} (I : Inv X pins σ H s) (e : H a = some (NDct X.prog X.w a xs)) (ks : KeysIn X.K H xs) :
    (a == sysModules) = false ∧ xs.length ≤ sizeLine ∧ ∃ vs, Paired NRel xs vs ∧ s.heap.DictOfH (nestedKind X.prog X.w) a vs := by
  obtain ⟨⟨y, z, vs, r, o, es, ep, ho, ⟨hc, hd⟩, he, hn⟩, _⟩ := I.hok a _ e
  refine ⟨y, z, vs, r, o, es, ep, ho, hc, hd, he, fun v hv => ?_, hn⟩
  obtain ⟨x, hx, e1, e2, _⟩ := nd_mem r v hv
  obtain ⟨k1, k2⟩ := ks x hx
  rw [← e1, ← e2]
  exact ⟨Nk.is I _ _ _ k1 rfl, k2⟩
/-- d.setdefault(y, z) -/
def rNSet (K : PySem.W.Frag) (P : Program) (w : World) (a : Addr) (y z : V) (H : Hp) (Q : VK) : Prop := ∃ (xs : List NE) (b : Addr) (k : NestedKey), H a = some (NDct P w a xs) ∧ KeysIn K H xs ∧ y = .ref b ∧ Nk K H y k ∧ k.depth ≤ 8 ∧ xs.length < sizeLine ∧
  (∀ v, lookN xs k = some v → Q v H) ∧ (lookN xs k = none → Q z (upd H a (NDct P w a (xs ++ [(k, b, z)]))))
def tNSet (K : PySem.W.Frag) (P : Program) (w : World) (td ty tx : TE) : TE := fun σ H Q => td σ H fun d H1 => ∃ a, d = .ref a ∧ (∃ xs, H1 a = some (NDct P w a xs)) ∧ ty σ H1 fun y H2 => tx σ H2 fun z H3 => rNSet K P w a y z H3 Q
theorem pe_nset {o e f : Expr} {td ty tx : TE} {apos cpos : Pos} (ho : PE X o td) (he : PE X e ty) (hf : PE X f tx) (m : M2 X o "setdefault" apos e f cpos) (hu : X.A.units + 9 < cLine) :
    PE X (.Call (.Attribute o "setdefault" apos) [e, f] [] cpos) (tNSet X.K X.prog X.w td ty tx) := by
  constructor
  intro pins s σ H Q I h
  refine wpAny_Call_method m.base m.few m.line PySem.F.plainAttrs_dict PySem.F.slot_dict_setdefault PySem.F.type_dict_setdefault (thn (ho.run pins s σ H _ I h) ?_)
  rintro du s1 ⟨d, H1, I1, rd, a, rfl, ⟨xs0, e0⟩, q1⟩
  obtain rfl : du = Value.ref a := rd
  obtain ⟨⟨y0, _, _, _, ob, es, ep, hob, ⟨hcd, hda⟩, _⟩, _⟩ := I1.hok a _ e0
  have noD : ob.dict = none := hcd.2.1
  refine ⟨⟨ob, hob, hcd.1⟩, fun b hb => by cases hb; exact ⟨ob, hob, noD⟩, ?_⟩
  rw [m.trees]
  refine Calls.callWith_builtin rfl (Calls.evalArgs_plain (Calls.spliced_cons (thn (he.run pins s1 σ H1 _ I1 q1) ?_)))
  rintro yu s2 ⟨y, H2, I2, ry, q2⟩
  refine Calls.spliced_cons (thn (hf.run pins s2 σ H2 _ I2 q2) ?_)
  rintro zu s3 ⟨z, H3, I3, rz, xs, b, k, ea, ks, rfl, hk, hdp, hl, g1, g2⟩
  refine Calls.spliced_nil ?_
  obtain rfl : yu = Value.ref b := ry
  obtain ⟨ys, zs, vs, rel, dd⟩ := nd_of I3 ea ks
  have ln := nd_len rel
  have lk := nrel_look k rel
  refine call_setdefault_heap (knd := nestedKind X.prog X.w) (k := k) (xs := vs) (show X.A.units + 1 + 8 < cLine by omega) ⟨Nk.is I3 k _ (Value.ref b) hk rfl, hdp⟩ ys dd (fun p hp => ?_) (fun hn h' dd' sb => ?_) (by omega)
  · rw [hp] at lk
    cases q0 : lookN xs k with
    | none => rw [q0] at lk; exact lk.elim
    | some v0 =>
      rw [q0] at lk
      exact ⟨v0, H3, I3.tok _, lk, g1 v0 q0⟩
  · rw [hn] at lk
    cases q0 : lookN xs k with
    | some v0 => rw [q0] at lk; exact lk.elim
    | none =>
      rw [storedH_new hn] at dd'
      obtain ⟨o', es', ep', ho', hc', hd', he', _, hn'⟩ := dd'
      have nd : NdAt X.prog X.w a (xs ++ [(k, b, z)]) h' := ⟨ys, by rw [List.length_append, List.length_singleton]; omega, _, nd_paired rel ⟨rfl, rfl, rz⟩, o', es', ep', ho', ⟨hc', hd'⟩, he', hn'⟩
      exact ⟨z, _, I3.write (x := a) (e := a) (by rw [ea]; trivial) (.inl rfl) (fun c q hc hq => (sb.2 c hc).trans hq) ⟨o', ho'⟩ (nd_obj nd), rz, g2 q0⟩
end
end Bs
namespace Bs
open PySem L2 TL PySem.Spec PyProof.Rows PySem.SeqAt
section
variable {A : Around} {s : Shared}
theorem ltAt_pair {l b : Addr} {p q u v : Value} {c r : Bool} (hl : IsTup s.heap l #[p, q]) (hb : IsTup s.heap b #[u, v]) (e1 : EqAt A.in1 s p u true) (e2 : EqAt A.in1 s q v c) (e3 : c = false → LtAt A.in1 s q v r) (hu : A.units < cLine) :
    LtAt A s (.ref l) (.ref b) (if c then false else r) := by
  intro prog w Er Qr hq
  obtain ⟨⟨cls, dd, data, sl⟩, ho, hc, n, hd⟩ := hl
  obtain ⟨⟨cls2, dd2, data2, sl2⟩, ho2, hc2, n2, hd2⟩ := hb
  dsimp only at hc hd hc2 hd2
  cases hc; cases hd; cases hc2; cases hd2
  exact richCompare_meets_room (op := .Lt) (Q := Qr) ⟨_, ho, rfl⟩ ⟨_, ho2, rfl⟩ PySem.F.slot_tuple_lt PySem.F.entry_tuple_lt (PySem.F.args_tuple_lt_2 _ _) (pair_lt l b p q u v n n2 dd dd2 sl sl2 c r)
    ⟨⟨ho, ho2⟩, e1, e2, e3, (fun z => nomatch z), hq⟩ hu
theorem ltAt_ints {l b : Addr} {items items2 : Array Value} {ns ms : List Int} (hl : IsTup s.heap l items) (hb : IsTup s.heap b items2) (hi : IntsAre items.toList ns) (hj : IntsAre items2.toList ms) (hu : A.units < cLine) :
    LtAt A s (.ref l) (.ref b) (HT.lexLt ns ms) := fun prog w Er Qr hq => (HT.lt_tupInts hl hb hi hj hu hq : wpAny (model prog w) A (compareOp .Lt (.ref l) (.ref b)) Qr Er s)
end
theorem min_pair {prog : Program} {w : World} {A : Around} {Er : Value → Shared → Prop} {s : Shared} {a b : Value} {Q : Value → Shared → Prop} (hh : A.handled = none) (ev : Nat → List Int)
    (hlt : ∀ (s' : Shared), (∀ c o, s.heap.get? c = some o → s'.heap.get? c = some o) → ∀ i j x y, #[a, b][i]? = some x → #[a, b][j]? = some y → LtAt A.in1 s' x y (HT.lexLt (ev i) (ev j)))
    (h : ∀ h' tk, (∀ c o, s.heap.get? c = some o → h'.get? c = some o) → Q (if HT.lexLt (ev 1) (ev 0) then b else a) { s with heap := h', toks := tk }) :
    wpAny (model prog w) A (call (.builtin "min") [a, b]) Q Er s := by
  refine call_function_tree F.kind_min F.plain_min F.entry_min (F.args_min2 _ _) ?_
  have hb0 : Builtin.Builtins.bindParams "min" ["key", "default"] 0 ⟨[], []⟩ = pure [none, none] := rfl
  show wpAny _ A.in1 (Builtin.Builtins.bindParams _ _ _ _ >>= _) _ _ s
  refine wpAny_bind (wpAny_of_eq hb0 (wpAny_bind (wpAny_newObj_type ?_)))
  have sz0 : (s.heap.push { cls := .type "tuple", data := .seq #[a, b] }).objs.size = s.heap.objs.size + 1 := Heap.size_push ..
  have hT : (s.heap.push { cls := .type "tuple", data := .seq #[a, b] }).IsTuple s.heap.objs.size #[a, b] := ⟨_, Heap.get?_push_size _ rfl, rfl, 0, rfl⟩
  refine wpAny_bind (wpAny_pyIter_tuple hT (wpAny_bind (wpAny_newObj_type ?_)))
  have nm : (toString "min" ++ toString ".loop" : String) = "min.loop" := by decide
  rw [nm]
  have W := (Walks.tuple (prog := prog) (w := w) (A := A.in1) hh (s.heap.objs.size + 1) s.heap.objs.size (Nat.ne_of_lt (Nat.lt_succ_self _)) #[a, b]).toS
  refine wpAny_pure ⟨plainId_quiet F.plain_min_loop _, ?_⟩
  rw [sz0]
  have sz1 : ∀ o : Obj, ((s.heap.push { cls := .type "tuple", data := .seq #[a, b] }).push o).objs.size = s.heap.objs.size + 2 := fun o => by rw [Heap.size_push, sz0]
  have kp : ∀ (o1 o2 o3 : Obj) c o, s.heap.get? c = some o → (((s.heap.push o1).push o2).push o3).get? c = some o := fun o1 o2 o3 c o e => Heap.get?_push_of_some _ (Heap.get?_push_of_some _ (Heap.get?_push_of_some _ e))
  have nin : ∀ n c o, s.heap.objs.size ≤ n → s.heap.get? c = some o → c ≠ n := fun n c o hn e => Nat.ne_of_lt (Nat.lt_of_lt_of_le (Heap.lt_size e) hn)
  refine codeAny_min_loop_firstH W s.heap (fun c o e hm => nin _ c o (Nat.le_succ _) e (List.mem_singleton.mp hm)) (fun i j => HT.lexLt (ev i) (ev j)) (fun i j x y s' Q' E' hk hx hy hq => hlt s' hk i j x y hx hy prog w E' Q' hq) _ ?_ ?_ _ (show 0 < 2 by decide) (kp _ _ _) ?_ (Heap.get?_push_size _ rfl) ?_
  · intro hm
    rw [sz1] at hm
    rcases List.mem_cons.mp hm with e | hm
    · exact Nat.succ_ne_self _ (Nat.succ.inj e)
    · exact Nat.ne_of_gt (Nat.lt_succ_of_lt (Nat.lt_succ_self _)) (List.mem_singleton.mp hm)
  · show s.heap.get? _ = none
    cases e : s.heap.get? (((s.heap.push { cls := .type "tuple", data := .seq #[a, b] }).push { cls := .type "tuple_iterator", data := .fields #[.ref s.heap.objs.size, .int 0 0] }).objs.size) with
    | none => rfl
    | some o =>
      have := Heap.lt_size e
      rw [sz1] at this
      exact absurd (Nat.lt_of_succ_lt this) (Nat.not_lt_of_gt (Nat.lt_succ_self _))
  · refine ⟨⟨{ cls := .type "tuple_iterator", data := .fields #[.ref s.heap.objs.size, .int 0 0] }, Heap.get?_push_of_some _ ?_, rfl, rfl⟩, (hT.push _).push _⟩
    rw [← sz0]
    exact Heap.get?_push_size _ rfl
  · intro v s' hP hm
    have hv : #[a, b][if HT.lexLt (ev 1) (ev 0) then 1 else 0]? = some v := hP
    have e2 : v = if HT.lexLt (ev 1) (ev 0) then b else a := by
      by_cases hx : HT.lexLt (ev 1) (ev 0) = true
      · rw [if_pos hx] at hv ⊢
        exact (Option.some.inj hv).symm
      · rw [if_neg hx] at hv ⊢
        exact (Option.some.inj hv).symm
    have q := h s'.heap s'.toks fun c o e => hm.heap c o (fun hc => by
      rcases List.mem_cons.mp hc with z | hc
      · rw [sz1] at z
        exact nin _ c o (Nat.le_add_right _ 2) e z
      · exact nin _ c o (Nat.le_succ _) e (List.mem_singleton.mp hc)) (kp _ _ _ c o e)
    rw [e2]
    have g1 := hm.gens
    have g2 := hm.drawn
    have g3 := hm.os
    obtain ⟨hp', ge', dr', tk', os'⟩ := s'
    dsimp only at g1 g2 g3 q ⊢
    subst g1 g2 g3
    exact q

theorem nested_ints {h : Heap} : ∀ (e : List Int) (its : List Value), Vals (e.map V.int) its → NestedAll h (e.map NestedKey.num) its
  | [], _, r => by
    cases r
    exact .nil
  | x :: e, _, r => by
    cases r with
    | cons r1 r2 =>
      obtain ⟨t, rfl⟩ := r1
      exact .cons (.int x t) (nested_ints e _ r2)
theorem depth_nums : ∀ e : List Int, NestedKey.depthAll (e.map NestedKey.num) = 0
  | [] => rfl
  | x :: e => by
    rw [List.map_cons, NestedKey.depthAll, depth_nums e]
    rfl
theorem nums_inj : ∀ {e f : List Int}, e.map NestedKey.num = f.map NestedKey.num → e = f
  | [], [], _ => rfl
  | [], _ :: _, h => by cases h
  | _ :: _, [], h => by cases h
  | x :: e, y :: f, h => by
    injection h with h1 h2
    injection h1 with h3
    rw [h3, nums_inj h2]
theorem lexLt_self : ∀ e : List Int, HT.lexLt e e = false
  | [] => rfl
  | x :: e => by rw [HT.lexLt_cons, if_pos rfl, lexLt_self e]
/-- min of two pairs of a text and a tuple of ints, the texts alike -/
def rMinP (K : PySem.W.Frag) : List V → Hp → VK → Prop := fun xs H Q => ∃ (a b p q : Addr) (z : Str) (e1 e2 : List Int), xs = [.ref a, .ref b] ∧ SqT K H a [.str z, .ref p] ∧ SqT K H b [.str z, .ref q] ∧ SqT K H p (e1.map V.int) ∧ SqT K H q (e2.map V.int) ∧
  Q (if HT.lexLt e2 e1 then .ref b else .ref a) H
theorem tup_kept {s s' : Shared} {a : Addr} {its : Array Value} (k : ∀ c o, s.heap.get? c = some o → s'.heap.get? c = some o) (h : IsTup s.heap a its) : IsTup s'.heap a its := let ⟨o, ho, r⟩ := h; ⟨o, k a o ho, r⟩
theorem call_minP {X : Cx} (hc : X.calm = true) (hu : X.A.units + 64 < cLine) : CallR X (.builtin "min") (rMinP X.K) := by
  intro pins s σ H xs us Q I r h
  obtain ⟨a, b, p, q, z, e1, e2, rfl, ha, hb, hp, hq, g⟩ := h
  obtain ⟨u1, u2, rfl, r1, r2⟩ := vals2 r
  obtain rfl : u1 = Value.ref a := r1
  obtain rfl : u2 = Value.ref b := r2
  have two : ∀ (c d : Addr), SqT X.K H c [.str z, .ref d] → ∃ t, IsTup s.heap c #[.str z t, .ref d] := fun c d hcd => by
    obtain ⟨its, rr, tt, _⟩ := I.tuple hcd
    obtain ⟨v1, v2, rfl, ⟨t, rfl⟩, w2⟩ := vals2 rr
    obtain rfl : v2 = Value.ref d := w2
    exact ⟨t, tt⟩
  obtain ⟨t1, pa⟩ := two a p ha
  obtain ⟨t2, pb⟩ := two b q hb
  obtain ⟨i1, v1, pp, _⟩ := I.tuple hp
  obtain ⟨i2, v2, pq, _⟩ := I.tuple hq
  -- any two of them compared
  have cmp : ∀ (s' : Shared), (∀ c o, s.heap.get? c = some o → s'.heap.get? c = some o) → ∀ (l m c d : Addr) (t t' : Tok) (j1 j2 : List Value) (f1 f2 : List Int), IsTup s.heap l #[.str z t, .ref c] → IsTup s.heap m #[.str z t', .ref d] → IsTup s.heap c j1.toArray → IsTup s.heap d j2.toArray →
      Vals (f1.map V.int) j1 → Vals (f2.map V.int) j2 → LtAt X.A.in1 s' (.ref l) (.ref m) (HT.lexLt f1 f2) := fun s' k l m c d t t' j1 j2 f1 f2 hl hm hc' hd' w1 w2 => by
    have kc := tup_kept k hc'
    have kd := tup_kept k hd'
    have n1 : NestedIs s'.heap (.tup (f1.map NestedKey.num)) (.ref c) := let ⟨o, ho, h2, n, h3⟩ := kc; .tup ho h2 h3 (nested_ints f1 _ w1)
    have n2 : NestedIs s'.heap (.tup (f2.map NestedKey.num)) (.ref d) := let ⟨o, ho, h2, n, h3⟩ := kd; .tup ho h2 h3 (nested_ints f2 _ w2)
    have dp : ∀ f : List Int, (NestedKey.tup (f.map NestedKey.num)).depth = 1 := fun f => by
      rw [NestedKey.depth, depth_nums]
    have eq2 := eqAt_key _ _ X.A.in1.in1 s' _ _ n1 n2 (by
      rw [dp, dp]
      show X.A.units + 1 + 1 + min 1 1 < cLine
      omega)
    have eq1 : EqAt X.A.in1.in1 s' (.str z t) (.str z t') true := (EqAt.str_str z t z t').cast (by simp)
    have lt2 : LtAt X.A.in1.in1 s' (.ref c) (.ref d) (HT.lexLt f1 f2) := ltAt_ints kc kd (intsAre_of w1) (intsAre_of w2) (by
      show X.A.units + 1 + 1 < cLine
      omega)
    have := ltAt_pair (tup_kept k hl) (tup_kept k hm) eq1 eq2 (fun _ => lt2) (by show X.A.units + 1 < cLine; omega)
    cases hbq : NestedKey.beq (.tup (f1.map NestedKey.num)) (.tup (f2.map NestedKey.num)) with
    | true =>
      rw [hbq] at this
      have e := NestedKey.eq_of_beq _ _ hbq
      injection e with e
      rw [nums_inj e, lexLt_self]
      exact this
    | false =>
      rw [hbq] at this
      exact this
  refine min_pair (I.ok.hd hc) (fun i => if i = 0 then e1 else e2) (fun s' k i j x y hx hy => ?_) fun h' tk k => ⟨_, H, I.kept k, ?_, g⟩
  · have sp : ∀ (i : Nat) (x : Value), (#[Value.ref a, Value.ref b] : Array Value)[i]? = some x → (i = 0 ∧ x = .ref a) ∨ (i = 1 ∧ x = .ref b) := fun i x hx => by
      match i with
      | 0 => exact .inl ⟨rfl, (Option.some.inj hx).symm⟩
      | 1 => exact .inr ⟨rfl, (Option.some.inj hx).symm⟩
      | n + 2 => simp at hx
    rcases sp i x hx with ⟨rfl, rfl⟩ | ⟨rfl, rfl⟩ <;> rcases sp j y hy with ⟨rfl, rfl⟩ | ⟨rfl, rfl⟩
    · exact cmp s' k _ _ _ _ _ _ _ _ _ _ pa pa pp pp v1 v1
    · exact cmp s' k _ _ _ _ _ _ _ _ _ _ pa pb pp pq v1 v2
    · exact cmp s' k _ _ _ _ _ _ _ _ _ _ pb pa pq pp v2 v1
    · exact cmp s' k _ _ _ _ _ _ _ _ _ _ pb pb pq pq v2 v2
  · show RelV (if HT.lexLt e2 e1 = true then V.ref b else V.ref a) (if HT.lexLt e2 e1 = true then Value.ref b else Value.ref a)
    split <;> rfl
theorem units9 {k : Nat} {A : Around} (r : Room k A) : A.units + 9 < cLine := by
  have := r.units
  omega
theorem cxP {CX : CXT} {P : Program} {w : World} {K : PySem.W.Frag} {mg : Str → Option Value} {base : Heap} {N : List Str} {qual : Str} {scope : Scope} {f : Addr} {cd : Value} {A : Around} {outer : List Env} {s : Shared} {H : Hp} {E : XK} : (cxOf CX P w K mg base N qual scope f cd A outer s H E).prog = P := rfl
theorem cxW {CX : CXT} {P : Program} {w : World} {K : PySem.W.Frag} {mg : Str → Option Value} {base : Heap} {N : List Str} {qual : Str} {scope : Scope} {f : Addr} {cd : Value} {A : Around} {outer : List Env} {s : Shared} {H : Hp} {E : XK} : (cxOf CX P w K mg base N qual scope f cd A outer s H E).w = w := rfl
/-- blocks within statements -/
def forB : Stmt → List Stmt
  | .For _ _ b _ _ => b
  | _ => []
def ifB : Stmt → List Stmt
  | .If _ b _ _ => b
  | _ => []
def elB : Stmt → List Stmt
  | .If _ _ b _ => b
  | _ => []
def stAt (l : List Stmt) (i : Nat) : Stmt := l.getD i (.Pass ⟨0, 0, 0, 0⟩)
/-! ### tuples with equal items: neither is less -/
theorem alike_lt (l b : Addr) (items items2 : Array Value) (n n2 : Nat) (dd dd2 : Option Addr) (sl sl2 : Array (Option Value)) (hsz : items.size = items2.size) :
    Meets (Builtin.«tuple.__lt__» ⟨[.ref l, .ref b], []⟩)
      (fun A R s => (s.heap.get? l = some { cls := .type "tuple", dict := dd, data := .seq items n, slots := sl } ∧ s.heap.get? b = some { cls := .type "tuple", dict := dd2, data := .seq items2 n2, slots := sl2 }) ∧
        (∀ p ∈ items.toList.zip items2.toList, EqAt A.in1 s p.1 p.2 true) ∧ R (.ok (.ret (.bool false))) s) :=
  .of_wp fun prog w A R s h => by
    obtain ⟨hp, g, d, tk, os⟩ := s
    obtain ⟨⟨hl, hb⟩, he, hR⟩ := h
    have f2 := AutoSeq1.sub_tuple_tuple
    wp_walk using AutoSeq1.wpAny_loadPart' hl, AutoSeq1.wpAny_loadPart' hb, wpAny_forIn_list _ (fun rest k s' => (k.1 = none ∧ s' = ⟨hp, g, d, tk, os⟩) ∧ ∀ p ∈ rest, p ∈ items.toList.zip items2.toList) _
    case turn =>
      rintro ⟨y, x⟩ rest k s' ⟨⟨hk, rfl⟩, hz⟩
      have e1 := he _ (hz _ List.mem_cons_self)
      refine wpAny_bind (e1 prog w _ _ ?_)
      wp_walk
      exact ⟨⟨rfl, rfl⟩, fun p hp' => hz p (List.mem_cons_of_mem _ hp')⟩
    case fin =>
      rintro ⟨k1, k2⟩ s' ⟨⟨hk, rfl⟩, hz⟩
      simp only at hk
      subst hk
      wp_walk
      exact ⟨_, rfl, by simpa [Builtin.Tuple.tupleCompareSizes, hsz] using hR⟩
    case h =>
      exact ⟨⟨rfl, rfl⟩, fun p hp' => hp'⟩
theorem ltAt_alike {A : Around} {s : Shared} {l b : Addr} {items items2 : Array Value} (hl : IsTup s.heap l items) (hb : IsTup s.heap b items2) (hsz : items.size = items2.size) (he : ∀ p ∈ items.toList.zip items2.toList, EqAt A.in1 s p.1 p.2 true) (hu : A.units < cLine) :
    LtAt A s (.ref l) (.ref b) false := by
  intro prog w Er Qr hq
  obtain ⟨⟨cls, dd, data, sl⟩, ho, hc, n, hd⟩ := hl
  obtain ⟨⟨cls2, dd2, data2, sl2⟩, ho2, hc2, n2, hd2⟩ := hb
  dsimp only at hc hd hc2 hd2
  cases hc; cases hd; cases hc2; cases hd2
  exact richCompare_meets_room (op := .Lt) (Q := Qr) ⟨_, ho, rfl⟩ ⟨_, ho2, rfl⟩ PySem.F.slot_tuple_lt PySem.F.entry_tuple_lt (PySem.F.args_tuple_lt_2 _ _) (alike_lt l b items items2 n n2 dd dd2 sl sl2 hsz)
    ⟨⟨ho, ho2⟩, he, (fun z => nomatch z), hq⟩ hu
mutual
theorem nested_kept {h h' : Heap} (k : ∀ c o, h.get? c = some o → h'.get? c = some o) : ∀ (x : NestedKey) (v : Value), NestedIs h x v → NestedIs h' x v
  | .none, _, q => by cases q; exact .none
  | .num i, _, q => by
    cases q with
    | bool e => exact .bool e
    | int _ t => exact .int _ t
  | .text z, _, q => by cases q; exact .text _ _
  | .tup ks, _, q => by
    cases q with
    | tup h1 h2 h3 h4 => exact .tup (k _ _ h1) h2 h3 (nested_keptAll k ks _ h4)
theorem nested_keptAll {h h' : Heap} (k : ∀ c o, h.get? c = some o → h'.get? c = some o) : ∀ (xs : List NestedKey) (vs : List Value), NestedAll h xs vs → NestedAll h' xs vs
  | [], _, q => by cases q; exact .nil
  | x :: xs, _, q => by
    cases q with
    | cons h1 h2 => exact .cons (nested_kept k x _ h1) (nested_keptAll k xs _ h2)
end
theorem depth_all_le : ∀ (ks : List NestedKey) (k : NestedKey), k ∈ ks → k.depth ≤ NestedKey.depthAll ks
  | [], _, h => by cases h
  | x :: r, k, h => by
    rw [NestedKey.depthAll]
    rcases List.mem_cons.mp h with rfl | h
    · omega
    · have := depth_all_le r k h
      omega
theorem zip_same {h h' : Heap} : ∀ (ks : List NestedKey) (vs ws : List Value), NestedAll h ks vs → NestedAll h' ks ws → (vs.length = ws.length) ∧ ∀ p ∈ vs.zip ws, ∃ k ∈ ks, NestedIs h k p.1 ∧ NestedIs h' k p.2
  | [], _, _, a, b => by
    cases a
    cases b
    exact ⟨rfl, fun p hp => by cases hp⟩
  | k :: ks, _, _, a, b => by
    cases a with
    | cons a1 a2 =>
      cases b with
      | cons b1 b2 =>
        obtain ⟨h1, h2⟩ := zip_same ks _ _ a2 b2
        refine ⟨congrArg (· + 1) h1, fun p hp => ?_⟩
        rw [List.zip_cons_cons] at hp
        rcases List.mem_cons.mp hp with rfl | hp
        · exact ⟨k, List.mem_cons_self, a1, b1⟩
        · obtain ⟨k', hk, q⟩ := h2 p hp
          exact ⟨k', List.mem_cons_of_mem _ hk, q⟩
/-- min of two equal tuples: the first -/
def rMinE (K : PySem.W.Frag) : List V → Hp → VK → Prop := fun xs H Q => ∃ (a b : Addr) (ks : List NestedKey), xs = [.ref a, .ref b] ∧ Nk K H (.ref a) (.tup ks) ∧ Nk K H (.ref b) (.tup ks) ∧ NestedKey.depthAll ks ≤ 8 ∧ Q (.ref a) H
theorem call_minE {X : Cx} (hc : X.calm = true) (hu : X.A.units + 64 < cLine) : CallR X (.builtin "min") (rMinE X.K) := by
  intro pins s σ H xs us Q I r h
  obtain ⟨a, b, ks, rfl, ha, hb, hd, g⟩ := h
  obtain ⟨u1, u2, rfl, r1, r2⟩ := vals2 r
  obtain rfl : u1 = Value.ref a := r1
  obtain rfl : u2 = Value.ref b := r2
  have n1 := Nk.is I _ _ (Value.ref a) ha rfl
  have n2 := Nk.is I _ _ (Value.ref b) hb rfl
  have cmp : ∀ (s' : Shared), (∀ c o, s.heap.get? c = some o → s'.heap.get? c = some o) → ∀ (l m : Addr), NestedIs s.heap (.tup ks) (.ref l) → NestedIs s.heap (.tup ks) (.ref m) → LtAt X.A.in1 s' (.ref l) (.ref m) false := fun s' k l m h1 h2 => by
    have h1' := nested_kept k _ _ h1
    have h2' := nested_kept k _ _ h2
    cases h1' with
    | tup a1 a2 a3 a4 =>
      cases h2' with
      | tup b1 b2 b3 b4 =>
        obtain ⟨ln, zz⟩ := zip_same ks _ _ a4 b4
        refine ltAt_alike ⟨_, a1, a2, _, a3⟩ ⟨_, b1, b2, _, b3⟩ (by simpa using ln) (fun p hp => ?_) (by show X.A.units + 1 < cLine; omega)
        obtain ⟨k', hk, q1, q2⟩ := zz p hp
        have dk := depth_all_le ks k' hk
        exact (eqAt_key k' k' X.A.in1.in1 s' _ _ q1 q2 (by show X.A.units + 1 + 1 + min _ _ < cLine; omega)).cast (NestedKey.beq_self k')
  refine min_pair (I.ok.hd hc) (fun _ => []) (fun s' k i j x y hx hy => ?_) fun h' tk k => ⟨.ref a, H, I.kept k, rfl, g⟩
  have sp : ∀ (i : Nat) (x : Value), (#[Value.ref a, Value.ref b] : Array Value)[i]? = some x → x = .ref a ∨ x = .ref b := fun i x hx => by
    match i with
    | 0 => exact .inl (Option.some.inj hx).symm
    | 1 => exact .inr (Option.some.inj hx).symm
    | n + 2 => simp at hx
  rcases sp i x hx with rfl | rfl <;> rcases sp j y hy with rfl | rfl
  · exact cmp s' k _ _ n1 n1
  · exact cmp s' k _ _ n1 n2
  · exact cmp s' k _ _ n2 n1
  · exact cmp s' k _ _ n2 n2
theorem call_minQ {X : Cx} (hc : X.calm = true) (hu : X.A.units + 64 < cLine) : CallR X (.builtin "min") (fun xs H Q => rMinP X.K xs H Q ∨ rMinE X.K xs H Q) := by
  intro pins s σ H xs us Q I r h
  rcases h with h | h
  · exact call_minP hc hu pins s σ H xs us Q I r h
  · exact call_minE hc hu pins s σ H xs us Q I r h
end Bs
namespace Bs
open PySem L2 TL
/-! ### x + (..) where the class of x has its own __add__ -/
/-- what the written part says of the class C, whose __add__ is the function at f -/
structure AddC (K : PySem.W.Frag) (C f : Addr) : Prop where
  first : PySem.W.selfFirst K C = true
  at_ : PySem.W.findIn K (.ref C) "__add__" = some (some (.ref f))
  fn : PySem.W.isFn K (.ref f) = true
  radd : PySem.W.findIn K (.ref C) "__radd__" = some none
  tadd : PySem.W.findIn K (.type "tuple") "__add__" = some (some (.builtin "tuple.__add__"))
  trad : PySem.W.findIn K (.type "tuple") "__radd__" = some none
  sub : PySem.W.subIn K (.type "tuple") (.ref C) = some false
def rAddO (K : PySem.W.Frag) (C : Addr) (sp : Sp) : R2 := fun x y H Q => ∃ a dx fs t xs, x = .ref a ∧ H a = some (.ins C dx fs) ∧ y = .ref t ∧ SqT K H t xs ∧ sp [.ref a, .ref t] H (fun v H' => ∃ b, v = .ref b ∧ Q (.ref b) H') (fun _ _ _ => False)
section
variable {X : Cx} {CX : CXT} {k : Nat} {f C : Addr} {fd : FuncData} {ps : List Str} {sp : Sp}
open PySem.W in
theorem op_addO (S : AddC X.K C f) (F : FnOk X.prog X.w X.K X.mg X.base CX k f fd ps sp) (hr : Room k X.A) (hb : Binds X.K fd ps []) (hx : Passes CX X (fun _ _ _ => False)) : OpR X (binaryOp .Add) (rAddO X.K C sp) := by
  intro pins s σ H x y v u Q I rx ry h
  obtain ⟨a, dx, fs, t, xs, rfl, ha, rfl, hT, q⟩ := h
  cases rx
  cases ry
  obtain ⟨mA, J, _⟩ := ins_get I.hok ha
  obtain ⟨od, J, _⟩ := J.look
  obtain ⟨its, rt, ⟨ot, ho, hc, _⟩, hs⟩ := I.tuple hT
  have hcall := run_fn (us := [.ref a, .ref t]) (vs := [.ref a, .ref t]) F hr hb .nil hx I (.cons rfl (.cons rfl .nil)) q
  have one := ksp_try (name := "__add__") (Q := EP X pins σ Q) I.kIn J S.at_ S.fn (wpAny_mono hcall (fun v s' hv => by
    obtain ⟨z, H', I', rz, b, rfl, q⟩ := hv
    cases rz
    exact ⟨.ref b, H', I', rfl, q⟩) fun _ _ e => e)
  obtain ⟨cd, rest, hcd, hm⟩ := ksp_first S.first
  have KX := I.kIn
  obtain ⟨hh, g, d, tt, os⟩ := s
  have L1 : Looks (model X.prog X.w) hh (typeOf (.ref a)) (.ref C) := J.type
  have L2 : Looks (model X.prog X.w) hh (typeOf (.ref t)) (.type "tuple") := fun A Q E s k q => wpAny_typeOf_ref (k _ _ ho) (by rw [hc]; exact q)
  have e1 : PySem.dunder "add" = "__add__" := by decide +kernel
  have e2 : dunderR "add" = "__radd__" := by decide +kernel
  have L3 : Looks (model X.prog X.w) hh (fillsNumberSlot (.ref C) "add") true := fills_K KX hcd hm (by rw [e1]; exact S.at_)
  have eq : (((some (Value.builtin "tuple.__add__")).isSome && !isSeqSlot (some (Value.builtin "tuple.__add__"))) || ((none : Option Value).isSome && !isSeqSlot none)) = false := by decide +kernel
  have L4 : Looks (model X.prog X.w) hh (fillsNumberSlot (.type "tuple") "add") false := by
    have h4 := ksp_fillsT (M := model X.prog X.w) (T := "tuple") (nm := "add") (h := hh) (fo := some (.builtin "tuple.__add__")) (ro := none) KX (by rw [e1]; exact S.tadd) (by rw [e2]; exact S.trad)
    rw [eq] at h4
    exact h4
  have hne : (Value.ref C == Value.type "tuple") = false := rfl
  have L8 : Looks (model X.prog X.w) hh (typeLookup (.type "tuple") (dunderR "add")) none := looks_findIn KX (by rw [e2]; exact S.trad)
  show wpAny _ _ (binaryOp .Add (.ref a) (.ref t)) _ _ _
  simp only [binaryOp, Operator.info]
  refine wpAny_holding (wpAny_bind ?_)
  unfold binaryOp1
  simp only [e1] at *
  refine wpAny_bind (L1.at (wpAny_bind (L2.at (wpAny_bind (L3.at ?_)))))
  simp only [hne, Bool.false_eq_true, if_false]
  ksp_lk
  refine wpAny_mono one (fun r s' hr' => ?_) fun _ _ e => e
  obtain ⟨v, rfl, hq⟩ := hr'
  ksp_lk
  exact hq
/-- a field read within a comprehension -/
theorem pe_fldK {K : PySem.W.Frag} {e : Expr} {g : Str} {pos : Pos} {ta : TE} (he : PE X e ta) (hb : attributeBase e g X.env (eval e X.env) = eval e X.env) (hk : X.K = K) : PE X (.Attribute e g pos) (tFld K ta g) := hk ▸ pe_fld he hb
end
end Bs
namespace Bs
open PySem PySem.Spec PyProof.Rows L2 TL
open AutoSeq1 (wpAny_loadPart')
/-! ### enumerate of a tuple -/
abbrev enH (h : Heap) (l : Addr) : Heap := (h.push { cls := .type "tuple_iterator", data := .fields #[.ref l, .int 0 0] }).push { cls := .type "enumerate", data := .fields #[.none, .bool false, .ref h.objs.size, rawInt 0, .none, .none] }
theorem meets_enT (l : Addr) (xs : Array Value) : Meets (Builtin.«enumerate.__new__» ⟨[.type "enumerate", .ref l], []⟩) (fun _ R s => s.heap.IsTuple l xs ∧
      R (.ok (.ret (.ref (s.heap.objs.size + 1)))) { s with heap := enH s.heap l }) :=
  .of_wp fun prog w A R s h => by
    obtain ⟨hp, g, d, tk, os⟩ := s
    obtain ⟨hl, h⟩ := h
    have hsub := sub_enumerate
    have hL : Heap.IsTuple (Shared.heap ⟨hp, g, d, tk, os⟩) l xs := hl
    obtain ⟨ob, ho, hc, n, hd⟩ := id hl
    obtain ⟨c0, dct, dt, sl⟩ := ob
    replace hc : c0 = .type "tuple" := hc
    replace hd : dt = .seq xs n := hd
    subst hc hd
    have hz : (hp.push { cls := .type "tuple_iterator", data := .fields #[.ref l, .int 0 0] }).objs.size = hp.objs.size + 1 := Heap.size_push ..
    rw [show (Shared.heap ⟨hp, g, d, tk, os⟩) = hp from rfl, ← hz] at h
    wp_walk using wpAny_loadPart' ho
    refine wpAny_stack_any fun st => wpAny_pure ?_
    split
    · rename_i c _ _ _ _ _
      cases (c == Value.type "enumerate")
      · wp_walk using wpAny_loadPart' ho, wpAny_pyIter_tuple hL
        exact ⟨_, rfl, h⟩
      · wp_walk using wpAny_loadPart' ho, wpAny_pyIter_tuple hL
        exact ⟨_, rfl, h⟩
    · wp_walk using wpAny_loadPart' ho, wpAny_pyIter_tuple hL
      exact ⟨_, rfl, h⟩
section
variable {prog : Program} {w : World} {A : Around} {E : Value → Shared → Prop} {s : Shared}
theorem call_enT {l : Addr} {xs : Array Value} {Q : Value → Shared → Prop} (hl : s.heap.IsTuple l xs)
    (h : ∀ h', IsEnum h' (s.heap.objs.size + 1) s.heap.objs.size 0 .none → h'.IsTupleIter s.heap.objs.size l 0 → (∀ b o, s.heap.get? b = some o → h'.get? b = some o) → Q (.ref (s.heap.objs.size + 1)) { s with heap := h' }) :
    wpAny (model prog w) A (call (.type "enumerate") [.ref l]) Q E s := by
  refine callType_new F.called_enumerate (by decide) (F.typeCall_enumerate_1 _) (F.newCall_enumerate_1 _) (fun obj => F.args_object_init_2 obj _) F.entry_enumerate_new (meets_enT l xs) ⟨hl, ?_⟩
  have hz : (s.heap.push { cls := .type "tuple_iterator", data := .fields #[.ref l, .int 0 0] }).objs.size = s.heap.objs.size + 1 := Heap.size_push ..
  have he : IsEnum (enH s.heap l) (s.heap.objs.size + 1) s.heap.objs.size 0 .none := by
    have := Heap.get?_push_size (s.heap.push { cls := .type "tuple_iterator", data := .fields #[.ref l, .int 0 0] })
      (o := { cls := .type "enumerate", data := .fields #[.none, .bool false, .ref s.heap.objs.size, rawInt 0, .none, .none] }) rfl
    rw [hz] at this
    exact this
  show _ ∧ _
  exact ⟨⟨_, he, rfl⟩, h _ he ⟨_, Heap.get?_push_of_some _ (Heap.get?_push_size _ rfl), rfl, rfl⟩ fun b o x => Heap.get?_push_of_some _ (Heap.get?_push_of_some _ x)⟩
end
theorem draws_tup {prog : Program} {w : World} {A : Around} (it l : Addr) (hne : l ≠ it) (items : Array Value) (hh : A.handled = none) :
    Draws prog w A it [it, l] items.size (fun i v => items[i]? = some v) (fun i h => h.IsTupleIter it l i ∧ h.IsTuple l items) where
  live := fun _ _ st => let ⟨o, ho, _⟩ := st.1; ⟨o, ho⟩
  frame := fun _ _ _ st hk => ⟨st.1.at fun o e => hk it (by simp) o e, let ⟨o, ho, r⟩ := st.2; ⟨o, hk l (by simp) o ho, r⟩⟩
  item := fun i s Q E hi st hQ => by
    refine RZ.nextOf_tuple_item st.1 st.2 (x := items[i]) (by simp [hi]) fun h' hit' hs' => ?_
    obtain ⟨o, ho, r⟩ := st.2
    exact hQ _ h' s.toks (by simp [hi]) ⟨hit', o, hs'.extBut l o hne ho, r⟩ hs'
  done := fun s Q E st hE => RZ.nextOf_tuple_end hh st.1 st.2 (by simp) hE
/-- .. at its end, wherever it stands behind the items -/
theorem draws_end {prog : Program} {w : World} {A : Around} (it l : Addr) (i : Nat) (items : Array Value) (hh : A.handled = none) (hi : items[i]? = none) :
    Draws prog w A it [it, l] i (fun _ _ => True) (fun j h => j = i ∧ h.IsTupleIter it l i ∧ h.IsTuple l items) where
  live := fun _ _ st => let ⟨o, ho, _⟩ := st.2.1; ⟨o, ho⟩
  frame := fun _ _ _ st hk => ⟨st.1, st.2.1.at fun o e => hk it (by simp) o e, let ⟨o, ho, r⟩ := st.2.2; ⟨o, hk l (by simp) o ho, r⟩⟩
  item := fun j s Q E hj st _ => absurd st.1 (Nat.ne_of_lt hj)
  done := fun s Q E st hE => RZ.nextOf_tuple_end hh st.2.1 st.2.2 hi hE
/-- the tuple at a as it stands at each turn, each item in a new pair -/
def IteT (K : PySem.W.Frag) (a : Addr) : It :=
  ⟨fun i H => ∃ (xs : List V) (x : V), SqT K H a xs ∧ xs[i]? = some x, fun i H v H' => ∃ T x, v = .ref T ∧ H T = none ∧ H' = upd H T (.tup [.int (i : Nat), x]) ∧ ∀ xs, SqT K H a xs → xs[i]? = some x, fun i H => ∃ xs : List V, SqT K H a xs ∧ xs.length ≤ i⟩
theorem enum_ne {h : Heap} {e it a : Addr} {i : Int} {old : Value} {xs : Array Value} (he : IsEnum h e it i old) (p : IsTup h a xs) : e ≠ a := fun z => by
  subst z
  obtain ⟨o, ho, hc, _⟩ := p
  have he' : h.get? e = some _ := he
  rw [ho] at he'
  cases he'
  exact absurd (show Value.type "enumerate" = Value.type "tuple" from hc) (by decide)
theorem titer_ne {h : Heap} {it a : Addr} {i : Nat} {xs : Array Value} (hit : h.IsTupleIter it a i) (p : IsTup h a xs) : a ≠ it := fun z => by
  subst z
  obtain ⟨o, ho, hc, _⟩ := p
  obtain ⟨o2, ho2, hc2, _⟩ := hit
  rw [ho] at ho2
  cases ho2
  rw [hc] at hc2
  exact absurd hc2 (by decide)
theorem turn_enT {P : Program} {w : World} {K : PySem.W.Frag} {elts : List Expr} {kk : Nat} {tpos : Pos} (a e it : Addr) :
    L2.Turn P w K (.Tuple elts kk tpos) (IteT K a) [e, it] e (fun i h => (∃ old, IsEnum h e it ((i : Nat) : Int) old) ∧ h.IsTupleIter it a i ∧ e ≠ it) where
  mem := by simp
  obj := fun i h st b hb => by
    obtain ⟨⟨old, he⟩, ⟨o, ho, hc, hd⟩, _⟩ := st
    have e' : b = e ∨ b = it := by simpa using hb
    rcases e' with z | z
    · rw [z]; exact ⟨_, he, fun v q => nomatch q⟩
    · rw [z]; exact ⟨o, ho, fun v q => by rw [hd] at q; cases q⟩
  keep := fun i h h' st k => let ⟨⟨old, he⟩, hi, hne⟩ := st; ⟨⟨old, k e (by simp) _ he⟩, hi.at fun o q => k it (by simp) o q, hne⟩
  item := by
    intro X hP hw hK hc i pins s σ H E I hf st hg
    subst hP hw hK
    obtain ⟨⟨old, he⟩, hit, hne⟩ := st
    obtain ⟨xs, x, hq, hx⟩ := hg
    obtain ⟨its, rv, p, hz⟩ := I.tuple hq
    obtain ⟨u, hu, ru⟩ := rv.get hx
    have hel : e < s.heap.objs.size := Heap.lt_size he
    have hil : it < s.heap.objs.size := by obtain ⟨_, q, _⟩ := hit; exact Heap.lt_size q
    have hu' : its.toArray[i]? = some u := by simpa using hu
    have hlt : i < its.toArray.size := (Array.getElem?_eq_some_iff.mp hu').1
    have hea := enum_ne he p
    refine wpAny_pyNext_enum_itemD (draws_tup it a (titer_ne hit p) its.toArray (show X.A.in1.handled = none from I.ok.hd hc)) he ⟨hit, p⟩ hlt hne (by simp [hne, hea]) fun x' h' tk hx' ho hst' hT hsz hk => ?_
    rw [hu'] at hx'
    cases hx'
    refine ⟨_, rfl, wpAny_letOwnedTupleGo_enum (s := { s with heap := h', toks := tk + 1 }) ho fun h'' he' sb => ?_⟩
    have hT2 : h''.get? s.heap.objs.size = some { cls := .type "tuple", data := .seq #[.int i tk, u] } := (sb.2 _ (Nat.ne_of_gt hel)).trans hT
    have new : ObjOk X.prog X.w (upd H s.heap.objs.size (.tup [.int (i : Nat), x])) h'' s.heap.objs.size (.tup [.int (i : Nat), x]) :=
      ⟨by show 2 ≤ sizeLine; decide, [.int i tk, u], .cons ⟨_, rfl⟩ (.cons ru .nil), ⟨_, hT2, rfl, _, rfl⟩⟩
    have I1 : Inv X pins σ (upd H s.heap.objs.size (.tup [.int (i : Nat), x])) { s with heap := h'', toks := tk + 1 } :=
      I.turnedNew (ch := [e, it]) (fun b ob hb q => (sb.2 b (fun z => hb (by simp [z]))).trans (hk b ob (fun z => hb (by simp [z])) (fun z => hb (by simp [z])) q)) hf (Nat.le_refl _) new
    refine ⟨.ref s.heap.objs.size, _, I1, rfl, ⟨_, x, rfl, I.hok.fresh (Nat.le_refl _), rfl, fun ys hy => by rw [I.tuple_inj hy hq]; exact hx⟩, ⟨⟨u, ?_⟩, hst'.1.at fun o q => (sb.2 it (Ne.symm hne)).trans q, hne⟩, fun b hb => ?_⟩
    · have e1 : ((i + 1 : Nat) : Int) = (i : Int) + 1 := by omega
      rw [e1]; exact he'
    · have hb' : b < s.heap.objs.size := by
        have e' : b = e ∨ b = it := by simpa using hb
        rcases e' with z | z
        · rw [z]; exact hel
        · rw [z]; exact hil
      rw [upd_ne (Nat.ne_of_lt hb')]
      exact (hf b hb).1
  done := by
    intro X hP hw hK hc i pins s σ H E I hf st hg
    subst hP hw hK
    obtain ⟨⟨old, he⟩, hit, hne⟩ := st
    obtain ⟨xs, hq, hx⟩ := hg
    obtain ⟨its, rv, p, hz⟩ := I.tuple hq
    obtain ⟨f0, f1, f2, f3, f4, f5⟩ := hf it (by simp)
    have hl := rv.length
    exact wpAny_pyNext_enum_endD (draws_end it a i its.toArray (show X.A.in1.handled = none from I.ok.hd hc) (by simp; omega)) he ⟨rfl, hit, p⟩ fun h' eb => ⟨rfl, I.turned (t' := s.toks) (fun b o hb q => eb b o hb q) f0 f1 f3 f4 f5⟩
  self := fun A i s Q E st h => let ⟨⟨_, he⟩, _⟩ := st; wpAny_pyIter_enum he h
def iEnumT (K : PySem.W.Frag) (ta : TA) : TI := fun σ H R => ta σ H fun vs H1 => ∃ a xs, vs = [.ref a] ∧ SqT K H1 a xs ∧ R (IteT K a) H1
theorem pi_enumT {X : Cx} {e : Expr} {ta : TA} {p pos tpos : Pos} {elts : List Expr} {kk : Nat} (hg : Gl X "enumerate") (hm : X.mg "enumerate" = none) (ha : PA X [e] ta) (hs : starEach [e] X.env = [(false, eval e X.env)] := by rfl) :
    PI X (.Tuple elts kk tpos) (.Call (.Name "enumerate" p) [e] [] pos) (iEnumT X.K ta) := by
  refine ⟨fun pins s σ H R I h => ?_⟩
  refine Call_ (ld_blt I hg hm boot_enumerate (PyProof.Rows.callWith_type1 (thn (ha.run pos pins s σ H _ I h) fun us s1 ⟨vs, H1, I1, r1, q1⟩ => ?_) hs rfl))
  obtain ⟨a, xs, ex, hq, q⟩ := q1
  subst ex
  cases r1 with
  | cons r rr =>
    cases rr
    cases r
    obtain ⟨its, rv, p', hz⟩ := I1.tuple hq
    refine call_enT (show s1.heap.IsTuple a its.toArray from p') fun h' he hit hk => wpAny_pyIter_enum he ?_
    have I2 : Inv X pins σ H1 { s1 with heap := h' } := I1.kept (t' := s1.toks) hk
    refine ⟨s1.heap.objs.size + 1, [s1.heap.objs.size + 1, s1.heap.objs.size], _, _, H1, rfl, I2, turn_enT a (s1.heap.objs.size + 1) s1.heap.objs.size, ⟨⟨.none, he⟩, hit, Nat.succ_ne_self _⟩, fun b hb => ?_, q⟩
    have e' : b = s1.heap.objs.size + 1 ∨ b = s1.heap.objs.size := by simpa using hb
    have hle : s1.heap.objs.size ≤ b := by
      rcases e' with z | z
      · rw [z]; exact Nat.le_add_right _ _
      · rw [z]; exact Nat.le_refl _
    exact I1.fpOk hle (I1.hok.fresh hle)
theorem walk_enT {K : PySem.W.Frag} {a : Addr} {xs : List V} : Walk (IteT K a) xs.length (fun H => SqT K H a xs) (YPair (fun i => some (.int (i : Nat))) (fun i => xs[i]?)) := by
  refine ⟨fun i _ hi q => ⟨xs, xs[i], q, by simp [hi]⟩, fun _ q => ⟨xs, q, Nat.le_refl _⟩, fun i H v H' _ q y => ?_⟩
  obtain ⟨T, x, h1, h2, h3, h4⟩ := y
  exact ⟨T, .int (i : Nat), x, h1, h2, h3, rfl, h4 xs q⟩
end Bs
namespace Bs
open PySem PySem.Spec PyProof.Rows L2 TL
/-! ### zip of a tuple and a list -/
abbrev zmH1 (h : Heap) (l1 : Addr) : Heap := h.push { cls := .type "tuple_iterator", data := .fields #[.ref l1, .int 0 0] }
abbrev zmH2 (h : Heap) (l1 l2 : Addr) : Heap := (zmH1 h l1).push { cls := .type "list_iterator", data := .fields #[.ref l2, .int 0 0] }
abbrev zmH3 (h : Heap) (l1 l2 : Addr) : Heap := (zmH2 h l1 l2).push { cls := .type "tuple", data := .seq #[.ref h.objs.size, .ref (zmH1 h l1).objs.size] }
abbrev zmH4 (h : Heap) (l1 l2 : Addr) : Heap := (zmH3 h l1 l2).push { cls := .type "tuple", data := .seq #[.none, .none] }
abbrev zmH5 (h : Heap) (l1 l2 : Addr) : Heap := (zmH4 h l1 l2).push { cls := .type "zip", data := .fields #[.none, .bool false, .bool false, .ref (zmH2 h l1 l2).objs.size, .ref (zmH3 h l1 l2).objs.size] }
theorem meets_zipM (l1 l2 : Addr) (xs ys : Array Value) :
    Meets (Builtin.«zip.__new__» ⟨[.type "zip", .ref l1, .ref l2], []⟩) (fun _ R s => s.heap.IsTuple l1 xs ∧ s.heap.IsList l2 ys ∧
      R (.ok (.ret (.ref (zmH4 s.heap l1 l2).objs.size))) { s with heap := zmH5 s.heap l1 l2 }) :=
  .of_wp fun prog w A R s h => by
    obtain ⟨hp, g, d, tk, os⟩ := s
    obtain ⟨hl1, hl2, h⟩ := h
    have hsub := sub_zip
    have hL1 : Heap.IsTuple (Shared.heap ⟨hp, g, d, tk, os⟩) l1 xs := hl1
    have hL2 : Heap.IsList (Shared.heap ⟨hp.push { cls := .type "tuple_iterator", data := .fields #[.ref l1, .int 0 0] }, g, d, tk, os⟩) l2 ys := by
      obtain ⟨o, ho, r⟩ := hl2
      exact ⟨o, Heap.get?_push_of_some _ ho, r⟩
    wp_walk using wpAny_pyIter_tuple hL1, wpAny_pyIter_list hL2
    exact ⟨_, rfl, h⟩
section
variable {prog : Program} {w : World} {A : Around} {E : Value → Shared → Prop} {s : Shared}
theorem call_zipM {l1 l2 : Addr} {xs ys : Array Value} {Q : Value → Shared → Prop} (hl1 : s.heap.IsTuple l1 xs) (hl2 : s.heap.IsList l2 ys)
    (h : ∀ h', IsZip h' (s.heap.objs.size + 4) (s.heap.objs.size + 2) (s.heap.objs.size + 3) .none → IsPair h' (s.heap.objs.size + 2) (.ref s.heap.objs.size) (.ref (s.heap.objs.size + 1)) →
      IsPair h' (s.heap.objs.size + 3) .none .none → h'.IsTupleIter s.heap.objs.size l1 0 → h'.IsListIter (s.heap.objs.size + 1) l2 0 →
      (∀ c o, s.heap.get? c = some o → h'.get? c = some o) → Q (.ref (s.heap.objs.size + 4)) { s with heap := h' }) :
    wpAny (model prog w) A (call (.type "zip") [.ref l1, .ref l2]) Q E s := by
  refine callType_new F.called_zip (by decide) (F.typeCall_zip_2 _ _) (F.newCall_zip_2 _ _) (fun obj => F.args_object_init_3 obj _ _) F.entry_zip_new
    (meets_zipM l1 l2 xs ys) ⟨hl1, hl2, ?_⟩
  have z1 : (zmH1 s.heap l1).objs.size = s.heap.objs.size + 1 := Heap.size_push ..
  have z2 : (zmH2 s.heap l1 l2).objs.size = s.heap.objs.size + 2 := by rw [Heap.size_push, z1]
  have z3 : (zmH3 s.heap l1 l2).objs.size = s.heap.objs.size + 3 := by rw [Heap.size_push, z2]
  have z4 : (zmH4 s.heap l1 l2).objs.size = s.heap.objs.size + 4 := by rw [Heap.size_push, z3]
  have g5 : (zmH5 s.heap l1 l2).get? (zmH4 s.heap l1 l2).objs.size = some _ := Heap.get?_push_size _ rfl
  have g4 : (zmH5 s.heap l1 l2).get? (zmH3 s.heap l1 l2).objs.size = some _ := Heap.get?_push_of_some _ (Heap.get?_push_size _ rfl)
  have g3 : (zmH5 s.heap l1 l2).get? (zmH2 s.heap l1 l2).objs.size = some _ := Heap.get?_push_of_some _ (Heap.get?_push_of_some _ (Heap.get?_push_size _ rfl))
  have g2 : (zmH5 s.heap l1 l2).get? (zmH1 s.heap l1).objs.size = some _ := Heap.get?_push_of_some _ (Heap.get?_push_of_some _ (Heap.get?_push_of_some _ (Heap.get?_push_size _ rfl)))
  have g1 : (zmH5 s.heap l1 l2).get? s.heap.objs.size = some _ := Heap.get?_push_of_some _ (Heap.get?_push_of_some _ (Heap.get?_push_of_some _ (Heap.get?_push_of_some _ (Heap.get?_push_size _ rfl))))
  show _ ∧ _
  rw [z2, z3, z4] at g5
  rw [z1, z2] at g3
  rw [z3] at g4
  rw [z1] at g2
  rw [z4]
  exact ⟨⟨_, g5, rfl⟩, h _ g5 g3 g4 ⟨_, g1, rfl, rfl⟩ ⟨_, g2, rfl, rfl⟩ fun c o x =>
    Heap.get?_push_of_some _ (Heap.get?_push_of_some _ (Heap.get?_push_of_some _ (Heap.get?_push_of_some _ (Heap.get?_push_of_some _ x))))⟩
end
theorem draws_endL {prog : Program} {w : World} {A : Around} (it l : Addr) (i : Nat) (items : Array Value) (hh : A.handled = none) (hi : items[i]? = none) :
    Draws prog w A it [it, l] i (fun _ _ => True) (fun j h => j = i ∧ h.IsListIter it l i ∧ h.IsList l items) where
  live := fun _ _ st => let ⟨o, ho, _⟩ := st.2.1; ⟨o, ho⟩
  frame := fun _ _ _ st hk => ⟨st.1, st.2.1.at fun o e => hk it (by simp) o e, let ⟨o, ho, r⟩ := st.2.2; ⟨o, hk l (by simp) o ho, r⟩⟩
  item := fun j s Q E hj st _ => absurd st.1 (Nat.ne_of_lt hj)
  done := fun s Q E st hE => wpAny_nextOf_list_end hh st.2.1 st.2.2 hi hE
theorem liter_ne {h : Heap} {it a : Addr} {i : Nat} {xs : Array Value} (hit : h.IsListIter it a i) (p : h.IsList a xs) : a ≠ it := fun z => by
  subst z
  obtain ⟨o, ho, hc, _⟩ := p
  obtain ⟨o2, ho2, hc2, _⟩ := hit
  rw [ho] at ho2
  cases ho2
  have hc' : o.cls = Value.type "list" := hc
  rw [hc'] at hc2
  exact absurd hc2 (by decide)
/-- where a walk stands, with as many items as it has -/
theorem stand_tup {prog : Program} {w : World} {A : Around} {h : Heap} {it l : Addr} {i : Nat} {items : Array Value} (hh : A.handled = none) (hit : h.IsTupleIter it l i) (p : IsTup h l items) :
    ∃ (n : Nat) (P : Nat → Value → Prop) (St : Nat → Heap → Prop), Draws prog w A it [it, l] n P St ∧ St i h ∧ i ≤ n ∧ (items.size ≤ i → i = n) := by
  by_cases hi : i < items.size
  · exact ⟨_, _, _, draws_tup it l (titer_ne hit p) items hh, ⟨hit, p⟩, Nat.le_of_lt hi, fun z => by omega⟩
  · exact ⟨i, _, _, draws_end it l i items hh (by simp; omega), ⟨rfl, hit, p⟩, Nat.le_refl _, fun _ => rfl⟩
theorem stand_lst {prog : Program} {w : World} {A : Around} {h : Heap} {it l : Addr} {i : Nat} {items : Array Value} (hh : A.handled = none) (hit : h.IsListIter it l i) (p : h.IsList l items) :
    ∃ (n : Nat) (P : Nat → Value → Prop) (St : Nat → Heap → Prop), Draws prog w A it [it, l] n P St ∧ St i h ∧ i ≤ n ∧ (items.size ≤ i → i = n) := by
  by_cases hi : i < items.size
  · exact ⟨_, _, _, Draws.list hh it l (liter_ne hit p) items, ⟨hit, p⟩, Nat.le_of_lt hi, fun z => by omega⟩
  · exact ⟨i, _, _, draws_endL it l i items hh (by simp; omega), ⟨rfl, hit, p⟩, Nat.le_refl _, fun _ => rfl⟩
/-- the tuple at a and the list at b as they stand at each turn, the items in new pairs -/
def ItzM (K : PySem.W.Frag) (a b : Addr) : It :=
  ⟨fun i H => ∃ (xs ys : List V) (x y : V), SqT K H a xs ∧ SqL K H b ys ∧ xs[i]? = some x ∧ ys[i]? = some y,
    fun i H v H' => ∃ T x y, v = .ref T ∧ H T = none ∧ H' = upd H T (.tup [x, y]) ∧ (∀ xs, SqT K H a xs → xs[i]? = some x) ∧ ∀ ys, SqL K H b ys → ys[i]? = some y,
    fun i H => ∃ xs ys : List V, SqT K H a xs ∧ SqL K H b ys ∧ (xs.length ≤ i ∨ ys.length ≤ i)⟩
theorem tupAt_ne {h : Heap} {c a : Addr} {xs : Array Value} {ob : Obj} (e : h.get? c = some ob) (hc : (ob.cls == Value.type "tuple") = false) (p : IsTup h a xs) : c ≠ a := fun z => by
  subst z
  obtain ⟨o, ho, hco, _⟩ := p
  rw [e] at ho
  cases ho
  rw [hco] at hc
  exact absurd hc (by decide)
theorem lstAt_ne {h : Heap} {c a : Addr} {xs : Array Value} {ob : Obj} (e : h.get? c = some ob) (hc : (ob.cls == Value.type "list") = false) (p : h.IsList a xs) : c ≠ a := fun z => by
  subst z
  obtain ⟨o, ho, hco, _⟩ := p
  rw [e] at ho
  cases ho
  have hco' : ob.cls = Value.type "list" := hco
  rw [hco'] at hc
  exact absurd hc (by decide)
theorem turn_zipM {P : Program} {w : World} {K : PySem.W.Frag} {elts : List Expr} {kk : Nat} {tpos : Pos} {a b z TI TO i1 i2 : Addr} (D : ZipApart z TI TO i1 i2 a b) :
    L2.Turn P w K (.Tuple elts kk tpos) (ItzM K a b) [z, TI, TO, i1, i2] z (fun i h => IsZip h z TI TO .none ∧ IsPair h TI (.ref i1) (.ref i2) ∧ (∃ x y, IsPair h TO x y) ∧ h.IsTupleIter i1 a i ∧ h.IsListIter i2 b i) where
  mem := by simp
  obj := fun i h st c hc => by
    obtain ⟨hz, hTI, ⟨x, y, hTO⟩, ⟨o1, e1, _, d1⟩, ⟨o2, e2, _, d2⟩⟩ := st
    have e' : c = z ∨ c = TI ∨ c = TO ∨ c = i1 ∨ c = i2 := by simpa using hc
    rcases e' with q | q | q | q | q
    · rw [q]; exact ⟨_, hz, fun v q => nomatch q⟩
    · rw [q]; exact ⟨_, hTI, fun v q => nomatch q⟩
    · rw [q]; exact ⟨_, hTO, fun v q => nomatch q⟩
    · rw [q]; exact ⟨o1, e1, fun v q => by rw [d1] at q; cases q⟩
    · rw [q]; exact ⟨o2, e2, fun v q => by rw [d2] at q; cases q⟩
  keep := fun i h h' st k => by
    obtain ⟨hz, hTI, ⟨x, y, hTO⟩, h1, h2⟩ := st
    exact ⟨k z (by simp) _ hz, k TI (by simp) _ hTI, ⟨x, y, k TO (by simp) _ hTO⟩, h1.at fun o q => k i1 (by simp) o q, h2.at fun o q => k i2 (by simp) o q⟩
  item := by
    intro X hP hw hK hc i pins s σ H E I hf st hg
    subst hP hw hK
    obtain ⟨hz, hTI, ⟨x0, y0, hTO⟩, h1, h2⟩ := st
    obtain ⟨xs, ys, x, y, hqx, hqy, hx, hy⟩ := hg
    obtain ⟨its, rv, p, _⟩ := I.tuple hqx
    obtain ⟨its2, rv2, p2, _⟩ := I.list hqy
    obtain ⟨u, hu, ru⟩ := rv.get hx
    obtain ⟨u2, hu2, ru2⟩ := rv2.get hy
    have hzl : z < s.heap.objs.size := Heap.lt_size hz
    have hu' : its.toArray[i]? = some u := by simpa using hu
    have hu2' : its2.toArray[i]? = some u2 := by simpa using hu2
    have hh : X.A.in1.handled = none := I.ok.hd hc
    have S : ZipSep2 z TI TO i1 i2 [i1, a] [i2, b] := ⟨D.TIz, D.TOz, D.TITO, D.TIi1, by simp, by simp [Ne.symm D.i1z, Ne.symm D.l1z], by simp [D.TOi1, Ne.symm D.l1TO], D.TIi2, by simp, by simp [Ne.symm D.i2z, Ne.symm D.l2z], by simp [D.TOi2, Ne.symm D.l2TO], by simp [D.i12, Ne.symm D.l2i1], by simp [Ne.symm D.i12, Ne.symm D.l1i2]⟩
    refine wpAny_pyNext_zipD2_item S (draws_tup i1 a D.l1i1 its.toArray hh) (Draws.list hh i2 b D.l2i2 its2.toArray) hz hTI hTO ⟨h1, p⟩ ⟨h2, p2.isList⟩ (Array.getElem?_eq_some_iff.mp hu').1 (Array.getElem?_eq_some_iff.mp hu2').1 fun x' y' h' tk hx' hy' z' TO' st1 st2 hT hsz hk => ?_
    rw [hu'] at hx'
    rw [hu2'] at hy'
    cases hx'
    cases hy'
    refine ⟨_, rfl, wpAny_letOwnedTupleGo_zip (s := { s with heap := h', toks := tk }) z' fun h'' z'' sb => ?_⟩
    have hT2 : h''.get? s.heap.objs.size = some { cls := .type "tuple", data := .seq #[u, u2] } := (sb.2 _ (Nat.ne_of_gt hzl)).trans hT
    have new : ObjOk X.prog X.w (upd H s.heap.objs.size (.tup [x, y])) h'' s.heap.objs.size (.tup [x, y]) :=
      ⟨by show 2 ≤ sizeLine; decide, [u, u2], .cons ru (.cons ru2 .nil), ⟨_, hT2, rfl, _, rfl⟩⟩
    have I1 : Inv X pins σ (upd H s.heap.objs.size (.tup [x, y])) { s with heap := h'', toks := tk } :=
      I.turnedNew (t' := tk) (ch := [z, TI, TO, i1, i2]) (fun c o hb q => (sb.2 c (fun q' => hb (by simp [q']))).trans (hk c o (fun q' => hb (by simp [q'])) (fun q' => hb (by simp [q'])) (fun q' => hb (by simp [q'])) (fun q' => hb (by simp [q'])) q)) hf (Nat.le_refl _) new
    refine ⟨.ref s.heap.objs.size, _, I1, rfl, ⟨_, x, y, rfl, I.hok.fresh (Nat.le_refl _), rfl, fun l hl => by rw [I.tuple_inj hl hqx]; exact hx, fun l hl => by rw [I.list_inj hl hqy]; exact hy⟩, ⟨z'', ?_, ⟨u, u2, ?_⟩, ?_, ?_⟩, fun c hcm => ?_⟩
    · exact (sb.2 _ D.TIz).trans (hk _ _ D.TIz D.TITO D.TIi1 D.TIi2 hTI)
    · exact (sb.2 _ D.TOz).trans TO'
    · exact st1.1.at fun o q => (sb.2 _ D.i1z).trans q
    · exact st2.1.at fun o q => (sb.2 _ D.i2z).trans q
    · have hlt : c < s.heap.objs.size := by
        have e' : c = z ∨ c = TI ∨ c = TO ∨ c = i1 ∨ c = i2 := by simpa using hcm
        rcases e' with q | q | q | q | q
        · rw [q]; exact hzl
        · rw [q]; exact Heap.lt_size hTI
        · rw [q]; exact Heap.lt_size hTO
        · rw [q]; obtain ⟨_, e1, _⟩ := h1; exact Heap.lt_size e1
        · rw [q]; obtain ⟨_, e2, _⟩ := h2; exact Heap.lt_size e2
      rw [upd_ne (Nat.ne_of_lt hlt)]
      exact (hf c hcm).1
  done := by
    intro X hP hw hK hc i pins s σ H E I hf st hg
    subst hP hw hK
    obtain ⟨hz, hTI, ⟨x0, y0, hTO⟩, h1, h2⟩ := st
    obtain ⟨xs, ys, hqx, hqy, hend⟩ := hg
    obtain ⟨its, rv, p, _⟩ := I.tuple hqx
    obtain ⟨its2, rv2, p2, _⟩ := I.list hqy
    have l1 := rv.length
    have l2 := rv2.length
    have hh : X.A.in1.handled = none := I.ok.hd hc
    have S : ZipSep2 z TI TO i1 i2 [i1, a] [i2, b] := ⟨D.TIz, D.TOz, D.TITO, D.TIi1, by simp, by simp [Ne.symm D.i1z, Ne.symm D.l1z], by simp [D.TOi1, Ne.symm D.l1TO], D.TIi2, by simp, by simp [Ne.symm D.i2z, Ne.symm D.l2z], by simp [D.TOi2, Ne.symm D.l2TO], by simp [D.i12, Ne.symm D.l2i1], by simp [Ne.symm D.i12, Ne.symm D.l1i2]⟩
    obtain ⟨n1, P1, St1, D1, st1, le1, e1⟩ := stand_tup (prog := X.prog) (w := X.w) hh h1 p
    obtain ⟨n2, P2, St2, D2, st2, le2, e2⟩ := stand_lst (prog := X.prog) (w := X.w) hh h2 p2.isList
    have he : i = n1 ∨ i = n2 := by
      rcases hend with q | q
      · exact .inl (e1 (by simp; omega))
      · exact .inr (e2 (by simp; omega))
    exact wpAny_pyNext_zipD2_end S D1 D2 hz hTI hTO st1 st2 le1 le2 he fun h' tk hk => ⟨rfl, I.turnedL (t' := tk) (ch := [z, TI, TO, i1, i2]) (fun c o hb q =>
      hk c o (fun q' => hb (by simp [q'])) (fun q' => hb (by simp [q'])) (fun q' => hb (by simp [q'])) (fun q' => hb (by simp [q'])) q) hf⟩
  self := fun A i s Q E st h => wpAny_pyIter_zip st.1 h
def iZipM (K : PySem.W.Frag) (ta : TA) : TI := fun σ H R => ta σ H fun vs H1 => ∃ a b xs ys, vs = [.ref a, .ref b] ∧ SqT K H1 a xs ∧ SqL K H1 b ys ∧ R (ItzM K a b) H1
theorem pi_zipM {X : Cx} {e e2 : Expr} {ta : TA} {p pos tpos : Pos} {elts : List Expr} {kk : Nat} (hg : Gl X "zip") (hm : X.mg "zip" = none) (ha : PA X [e, e2] ta)
    (hs : starEach [e, e2] X.env = (false, eval e X.env) :: starEach [e2] X.env := by rfl) (hpl : (backTo pos (starEach [e2] X.env)).any (·.1) = false := by rfl) :
    PI X (.Tuple elts kk tpos) (.Call (.Name "zip" p) [e, e2] [] pos) (iZipM X.K ta) := by
  refine ⟨fun pins s σ H R I h => ?_⟩
  refine Call_ (ld_blt I hg hm PyProof.Rows.boot_zip (PyProof.Rows.callWith_type1 (thn (ha.run pos pins s σ H _ I h) fun us s1 ⟨vs, H1, I1, r1, q1⟩ => ?_) hs hpl))
  obtain ⟨a, b, xs, ys, ex, hqx, hqy, q⟩ := q1
  subst ex
  cases r1 with
  | cons r rr =>
    cases rr with
    | cons r' rr =>
      cases rr
      cases r
      cases r'
      have fresh5 : ∀ c, c ∈ [s1.heap.objs.size + 4, s1.heap.objs.size + 2, s1.heap.objs.size + 3, s1.heap.objs.size, s1.heap.objs.size + 1] → FpOk X pins H1 c := fun c hcm => by
        have e' : c = s1.heap.objs.size + 4 ∨ c = s1.heap.objs.size + 2 ∨ c = s1.heap.objs.size + 3 ∨ c = s1.heap.objs.size ∨ c = s1.heap.objs.size + 1 := by simpa using hcm
        have hle : s1.heap.objs.size ≤ c := by
          rcases e' with z | z | z | z | z
          · rw [z]; exact Nat.le_add_right _ _
          · rw [z]; exact Nat.le_add_right _ _
          · rw [z]; exact Nat.le_add_right _ _
          · rw [z]; exact Nat.le_refl _
          · rw [z]; exact Nat.le_add_right _ _
        exact I1.fpOk hle (I1.hok.fresh hle)
      obtain ⟨its, rv, p1, _⟩ := I1.tuple hqx
      obtain ⟨its2, rv2, p2, _⟩ := I1.list hqy
      obtain ⟨o1, ho1, _⟩ := id p1
      refine call_zipM (show s1.heap.IsTuple a its.toArray from p1) p2.isList fun h' hz hTI hTO h1 h2 hk => wpAny_pyIter_zip hz ?_
      have I2 : Inv X pins σ H1 { s1 with heap := h' } := I1.kept (t' := s1.toks) hk
      exact ⟨s1.heap.objs.size + 4, [s1.heap.objs.size + 4, s1.heap.objs.size + 2, s1.heap.objs.size + 3, s1.heap.objs.size, s1.heap.objs.size + 1], _, _, H1, rfl, I2, turn_zipM (PySem.W.ktu_apart s1.heap.objs.size a b (Heap.lt_size ho1) p2.lt), ⟨hz, hTI, ⟨_, _, hTO⟩, h1, h2⟩, fresh5, q⟩
theorem walk_zipM {K : PySem.W.Frag} {a b : Addr} {xs ys : List V} {n : Nat} (hn : n = min xs.length ys.length) : Walk (ItzM K a b) n (fun H => SqT K H a xs ∧ SqL K H b ys) (YPair (fun i => xs[i]?) (fun i => ys[i]?)) := by
  subst hn
  refine ⟨fun i _ hi q => ?_, fun _ q => ⟨xs, ys, q.1, q.2, by omega⟩, fun i H v H' _ q y => ?_⟩
  · have h1 : i < xs.length := by omega
    have h2 : i < ys.length := by omega
    exact ⟨xs, ys, xs[i], ys[i], q.1, q.2, by simp [h1], by simp [h2]⟩
  · obtain ⟨T, x, z, h1, h2, h3, h4, h5⟩ := y
    exact ⟨T, x, z, h1, h2, h3, h4 xs q.1, h5 ys q.2⟩
end Bs
namespace Bs
open PySem L2 TL
/-! ### len, in and == of an own class -/
/-- what the written part says of the class C, whose method m is the function at f -/
structure DunC (K : PySem.W.Frag) (C : Addr) (m : Str) (f : Addr) : Prop where
  at_ : PySem.W.findIn K (.ref C) m = some (some (.ref f))
  fn : PySem.W.isFn K (.ref f) = true
def rLenO (C : Addr) (sp : Sp) : List V → Hp → VK → Prop := fun xs H Q => ∃ a dx fs, xs = [.ref a] ∧ H a = some (.ins C dx fs) ∧ sp [.ref a] H (fun v H' => ∃ n : Int, v = .int n ∧ 0 ≤ n ∧ n < 2 ^ 63 ∧ Q (.int n) H') (fun _ _ _ => False)
def rInO (C : Addr) (sp : Sp) : R2 := fun x y H Q => ∃ a dx fs, y = .ref a ∧ H a = some (.ins C dx fs) ∧ sp [.ref a, x] H (fun v H' => ∃ b, v = .bl b ∧ Q (.bl b) H') (fun _ _ _ => False)
def rEqO (C : Addr) (sp : Sp) : R2 := fun x y H Q => ∃ a dx fs b dy gs, x = .ref a ∧ y = .ref b ∧ H a = some (.ins C dx fs) ∧ H b = some (.ins C dy gs) ∧ sp [.ref a, .ref b] H (fun v H' => ∃ c, v = .bl c ∧ Q (.bl c) H') (fun _ _ _ => False)
section
variable {X : Cx} {CX : CXT} {k : Nat} {f C : Addr} {fd : FuncData} {ps : List Str} {sp : Sp}
theorem cr_lenO (S : DunC X.K C "__len__" f) (F : FnOk X.prog X.w X.K X.mg X.base CX k f fd ps sp) (hr : Room (k + 1) X.A) (hb : Binds X.K fd ps []) (hx : Passes CX X (fun _ _ _ => False)) : CallR X (.builtin "len") (rLenO C sp) := by
  intro pins s σ H xs us Q I r h
  obtain ⟨a, dx, fs, rfl, ha, q⟩ := h
  cases r with
  | cons rx rr =>
    cases rr
    cases rx
    obtain ⟨mA, J, _⟩ := ins_get I.hok ha
    obtain ⟨od, J, _⟩ := J.look
    obtain ⟨m, hF⟩ := I.fr
    refine PySem.W.len_K hF I.ok.mod.kin J S.at_ S.fn ?_
    have hl : [Value.ref a].length = ps.length := F.len _ _ _ _ q
    have b := hb s [.ref a] I.kIn (by rw [List.append_nil]; exact hl)
    rw [List.append_nil] at b
    refine wpAny_call (codeAny_mono (F.run X.A.in1 X.stack s H ⟨[.ref a], []⟩ [.ref a] [.ref a] _ (fun _ _ _ => False) hr.in1 I.env0.in1 b (.cons rfl .nil) q) fun r s' hq => ?_)
    cases r with
    | error e => exact hx pins σ H s e s' I hq
    | ok fl =>
      cases fl with
      | ret w =>
        obtain ⟨z, H', I', rz, n, rfl, h0, h1, q⟩ := I.after hq
        obtain ⟨t, rfl⟩ := rz
        exact ⟨⟨h0, h1⟩, .int n, H', I'.tok _, ⟨_, rfl⟩, q⟩
      | next => exact False.elim hq
      | brk => exact False.elim hq
      | cont => exact False.elim hq
theorem op_inO (S : DunC X.K C "__contains__" f) (F : FnOk X.prog X.w X.K X.mg X.base CX k f fd ps sp) (hr : Room k X.A) (hb : Binds X.K fd ps []) (hx : Passes CX X (fun _ _ _ => False)) : OpR X (compareOp .In) (rInO C sp) := by
  intro pins s σ H x y v u Q I rx ry h
  obtain ⟨a, dx, fs, rfl, ha, q⟩ := h
  cases ry
  obtain ⟨mA, J, _⟩ := ins_get I.hok ha
  obtain ⟨od, J, _⟩ := J.look
  obtain ⟨m, hF⟩ := I.fr
  refine PySem.W.in_K hF I.ok.mod.kin J S.at_ S.fn ?_
  refine wpAny_mono (run_fn (us := [.ref a, v]) (vs := [.ref a, x]) F hr hb .nil hx I (.cons rfl (.cons rx .nil)) q) (fun r s' hv => ?_) fun _ _ e => e
  obtain ⟨z, H', I', rz, b, rfl, q⟩ := hv
  cases rz
  exact PySem.wpAny_truthy_bool ⟨.bl b, H', I', rfl, q⟩
theorem op_eqO (S : DunC X.K C "__eq__" f) (F : FnOk X.prog X.w X.K X.mg X.base CX k f fd ps sp) (hr : Room k X.A) (hb : Binds X.K fd ps []) (hx : Passes CX X (fun _ _ _ => False)) : OpR X (compareOp .Eq) (rEqO C sp) := by
  intro pins s σ H x y v u Q I rx ry h
  obtain ⟨a, dx, fs, b, dy, gs, rfl, rfl, ha, hb', q⟩ := h
  cases rx
  cases ry
  obtain ⟨mA, J, _⟩ := ins_get I.hok ha
  obtain ⟨mB, J', _⟩ := ins_get I.hok hb'
  obtain ⟨od, J, _⟩ := J.look
  obtain ⟨od', J', _⟩ := J'.look
  obtain ⟨m, hF⟩ := I.fr
  show wpAny (model X.prog X.w) X.A (richCompare .Eq (.ref a) (.ref b)) (EP X pins σ Q) X.xe s
  refine PySem.W.cmp_K (op := .Eq) (tb := .ref C) hr.units0 hF I.ok.mod.kin J J'.type (by simp [PySem.W.notFirst]) S.at_ S.fn ?_
  refine wpAny_mono (run_fn (us := [.ref a, .ref b]) (vs := [.ref a, .ref b]) F hr hb .nil hx I (.cons rfl (.cons rfl .nil)) q) (fun r s' hv => ?_) fun _ _ e => e
  obtain ⟨z, H', I', rz, c, rfl, q⟩ := hv
  cases rz
  exact ⟨.bl c, H', I', rfl, q⟩
end
/-! ### a class made, and own +, where an error may come out -/
section
variable {X : Cx} {CX : CXT} {k : Nat} {f C : Addr} {fd : FuncData} {ps : List Str} {sp : Sp} {E : L2.St → XK} {x : Str} {p pos : Pos} {e : Expr} {es : List Expr} {t : TA}
theorem run_makeS {pins : List (Addr × Obj)} {σ : L2.St} {H : Hp} {s : Shared} {Q : VK} {us : List Value} {vs : List V} (M : Mk X.K C f) (F : FnOk X.prog X.w X.K X.mg X.base CX k f fd ps sp) (hr : Room (k + 1) X.A) (hb : Binds X.K fd ps [])
    (hx : PassesAt CX X σ (E σ)) (I : Inv X pins σ H s) (r : Vals vs us)
    (h : ∀ x dx, H x = none → H dx = none → dx ≠ x → sp (.ref x :: vs) (upd (upd H dx (.own x)) x (.ins C dx [])) (fun v H2 => v = .non ∧ Q (.ref x) H2) (E σ)) :
    wpAny (model X.prog X.w) X.A (call (.ref C) us) (EP X pins σ Q) X.xe s := by
  have hq := h (s.heap.objs.size + 1) s.heap.objs.size (I.hok.fresh (Nat.le_succ _)) (I.hok.fresh (Nat.le_refl _)) (Nat.ne_of_lt (Nat.lt_succ_self _))
  have I2 := Inv.made (C := C) I
  have r2 : Vals (V.ref (s.heap.objs.size + 1) :: vs) (Value.ref (s.heap.objs.size + 1) :: us) := .cons rfl r
  have hl : (Value.ref (s.heap.objs.size + 1) :: us).length = ps.length := by
    have e := r2.length
    rw [F.len _ _ _ _ hq] at e
    exact e.symm
  have hB := hb _ (Value.ref (s.heap.objs.size + 1) :: us) I2.kIn (by rw [List.append_nil]; exact hl)
  rw [List.append_nil] at hB
  refine wpAny_call (make_map (f := f) I.kIn M.makes M.init (beq_iff_eq.mp M.fn) (codeAny_mono (F.run _ X.stack _ _ ⟨Value.ref (s.heap.objs.size + 1) :: us, []⟩ (Value.ref (s.heap.objs.size + 1) :: us) _ _ (E σ) (hr.make C us [])
    (I2.env0.make C us []) hB r2 hq) fun r s' hq' => ?_))
  cases r with
  | error e => exact hx pins _ _ e s' I2 hq'
  | ok fl =>
    cases fl with
    | ret u =>
      obtain ⟨v, H', I3, rv, ev, q3⟩ := I2.after hq'
      subst ev
      exact ⟨rv, ⟨V.ref (s.heap.objs.size + 1), H', I3, rfl, q3⟩⟩
    | next => exact False.elim hq'
    | brk => exact False.elim hq'
    | cont => exact False.elim hq'
def tMakeS (C : Addr) (sp : Sp) (E : L2.St → XK) (t : TA) : TE := fun σ H Q => t σ H fun vs H1 => ∀ x dx, H1 x = none → H1 dx = none → dx ≠ x → sp (.ref x :: vs) (upd (upd H1 dx (.own x)) x (.ins C dx [])) (fun v H2 => v = .non ∧ Q (.ref x) H2) (E σ)
theorem pe_makeS (M : Mk X.K C f) (F : FnOk X.prog X.w X.K X.mg X.base CX k f fd ps sp) (hr : Room (k + 1) X.A) (hg : Gl X x) (hm : X.mg x = some (.ref C)) (hb : Binds X.K fd ps []) (hx : ∀ σ, PassesAt CX X σ (E σ))
    (ha : PA X (e :: es) t) (hdb : (x == ("__debug__" : Str)) = false := by decide) (he : starEach (e :: es) X.env = (false, eval e X.env) :: starEach es X.env := by rfl) (hpl : (backTo pos (starEach es X.env)).any (·.1) = false := by rfl) :
    PE X (.Call (.Name x p) (e :: es) [] pos) (tMakeS C sp E t) := by
  refine ⟨fun pins s σ H Q I h => ?_⟩
  refine wpAny_Call_Name_kw (ld_glob I hg hm ?_ hdb)
  refine PySem.W.callWith_K (h₀ := X.base) I.ok.mod.kin M.kp (thn (ha.run pos pins s σ H _ I h) fun us s1 ⟨vs, H1, I1, r, q⟩ => ⟨I1.kIn, ?_⟩) he hpl
  exact run_makeS M F hr hb (hx σ) I1 r q
end
end Bs
namespace Bs
open PySem L2 TL
/-! ### own + that may let an error out; a def that may let errors out, called where it does not; isinstance of a caught error without fields -/
theorem passN0 {X : Cx} : Passes (L2N.CX X.prog X.w) X (fun _ _ _ => False) := fun pins σ H s e s' I c => L2N.passAt takesN0 σ pins H s e s' I c
def tAddS (K : PySem.W.Frag) (C : Addr) (sp : Sp) (E : L2.St → XK) (ta tb : TE) : TE := fun σ H Q => ta σ H fun x H1 => tb σ H1 fun y H2 => ∃ a dx fs t xs, x = .ref a ∧ H2 a = some (.ins C dx fs) ∧ y = .ref t ∧ SqT K H2 t xs ∧ sp [.ref a, .ref t] H2 (fun v H' => ∃ b, v = .ref b ∧ Q (.ref b) H') (E σ)
section
variable {X : Cx} {CX : CXT} {k : Nat} {f C : Addr} {fd : FuncData} {ps : List Str} {sp : Sp}
open PySem.W in
theorem pe_addS {E : L2.St → XK} {e1 e2 : Expr} {pos : Pos} {ta tb : TE} (S : AddC X.K C f) (F : FnOk X.prog X.w X.K X.mg X.base CX k f fd ps sp) (hr : Room k X.A) (hb : Binds X.K fd ps []) (hx : ∀ σ, PassesAt CX X σ (E σ)) (ha : PE X e1 ta) (hb' : PE X e2 tb) :
    PE X (.BinOp e1 .Add e2 pos) (tAddS X.K C sp E ta tb) := by
  refine ⟨fun pins s σ H Q I h => ?_⟩
  refine wpAny_BinOp (binT ha hb' I h fun v u s x y H I rx ry h => ?_)
  obtain ⟨a, dx, fs, t, xs, rfl, ha, rfl, hT, q⟩ := h
  cases rx
  cases ry
  obtain ⟨mA, J, _⟩ := ins_get I.hok ha
  obtain ⟨od, J, _⟩ := J.look
  obtain ⟨its, rt, ⟨ot, ho, hc, _⟩, hs⟩ := I.tuple hT
  have hcall := run_fnS (us := [.ref a, .ref t]) (vs := [.ref a, .ref t]) F hr hb (hx σ) I (.cons rfl (.cons rfl .nil)) q
  have one := ksp_try (name := "__add__") (Q := EP X pins σ Q) I.kIn J S.at_ S.fn (wpAny_mono hcall (fun v s' hv => by
    obtain ⟨z, H', I', rz, b, rfl, q⟩ := hv
    cases rz
    exact ⟨.ref b, H', I', rfl, q⟩) fun _ _ e => e)
  obtain ⟨cd, rest, hcd, hm⟩ := ksp_first S.first
  have KX := I.kIn
  obtain ⟨hh, g, d, tt, os⟩ := s
  have L1 : Looks (model X.prog X.w) hh (typeOf (.ref a)) (.ref C) := J.type
  have L2 : Looks (model X.prog X.w) hh (typeOf (.ref t)) (.type "tuple") := fun A Q E s k q => wpAny_typeOf_ref (k _ _ ho) (by rw [hc]; exact q)
  have e1 : PySem.dunder "add" = "__add__" := by decide +kernel
  have e2 : dunderR "add" = "__radd__" := by decide +kernel
  have L3 : Looks (model X.prog X.w) hh (fillsNumberSlot (.ref C) "add") true := fills_K KX hcd hm (by rw [e1]; exact S.at_)
  have eq : (((some (Value.builtin "tuple.__add__")).isSome && !isSeqSlot (some (Value.builtin "tuple.__add__"))) || ((none : Option Value).isSome && !isSeqSlot none)) = false := by decide +kernel
  have L4 : Looks (model X.prog X.w) hh (fillsNumberSlot (.type "tuple") "add") false := by
    have h4 := ksp_fillsT (M := model X.prog X.w) (T := "tuple") (nm := "add") (h := hh) (fo := some (.builtin "tuple.__add__")) (ro := none) KX (by rw [e1]; exact S.tadd) (by rw [e2]; exact S.trad)
    rw [eq] at h4
    exact h4
  have hne : (Value.ref C == Value.type "tuple") = false := rfl
  have L8 : Looks (model X.prog X.w) hh (typeLookup (.type "tuple") (dunderR "add")) none := looks_findIn KX (by rw [e2]; exact S.trad)
  show wpAny _ _ (binaryOp .Add (.ref a) (.ref t)) _ _ _
  simp only [binaryOp, Operator.info]
  refine wpAny_holding (wpAny_bind ?_)
  unfold binaryOp1
  simp only [e1] at *
  refine wpAny_bind (L1.at (wpAny_bind (L2.at (wpAny_bind (L3.at ?_)))))
  simp only [hne, Bool.false_eq_true, if_false]
  ksp_lk
  refine wpAny_mono one (fun r s' hr' => ?_) fun _ _ e => e
  obtain ⟨v, rfl, hq⟩ := hr'
  ksp_lk
  exact hq
theorem pe_addSK {E : L2.St → XK} {K : PySem.W.Frag} {e1 e2 : Expr} {pos : Pos} {ta tb : TE} (hk : X.K = K) (S : AddC X.K C f) (F : FnOk X.prog X.w X.K X.mg X.base CX k f fd ps sp) (hr : Room k X.A) (hb : Binds X.K fd ps []) (hx : ∀ σ, PassesAt CX X σ (E σ)) (ha : PE X e1 ta) (hb' : PE X e2 tb) :
    PE X (.BinOp e1 .Add e2 pos) (tAddS K C sp E ta tb) := hk ▸ pe_addS S F hr hb hx ha hb'
end
def rIsN (K : PySem.W.Frag) (D a : Addr) (cls : Value) (d : Option Addr) : List V → Hp → VK → Prop := fun xs H Q => cls = .ref D ∧ d = none ∧ ∃ (c : V) (cv : Value) (b : Bool), xs = [.ref a, c] ∧ (∀ u, RelV c u → u = cv) ∧ PySem.W.kitOne K (.ref D) cv = some b ∧ Q (.bl b) H
theorem call_isN {X : Cx} {a D : Addr} {oe : Obj} {cls : Value} {d : Option Addr} {pn : List (Addr × Obj)} (C : ExcC X.K D) (hz : Zc cls d oe) (hf : ∃ vs, oe.data = .fields vs) : CallR (X.suite a ((a, oe) :: pn)) (.builtin "isinstance") (rIsN X.K D a cls d) := by
  intro pins s σ H xs us Q I r h
  obtain ⟨rfl, rfl, c, cv, b, rfl, h1, h2, q⟩ := h
  exact call_isE C hz hf pins s σ H _ us Q I r ⟨c, cv, b, rfl, h1, h2, q⟩
end Bs
namespace Bs
open PySem L2 TL PySem.Spec PyProof.Rows
def forBody : Stmt → List Stmt
  | .For _ _ b _ _ => b
  | .While _ b _ _ => b
  | _ => []
/-! ### comprehensions whose elements are new objects -/
/-- what is said of an object stands when others are made, and when a list is changed -/
structure Stay {α : Type} (P : Hp → Addr → α → Prop) : Prop where
  same : ∀ {H H' : Hp} {a : Addr} {y : α}, P H a y → Same H H' → P H' a y
  lst : ∀ {H : Hp} {D a : Addr} {l l' : List V} {y : α}, H D = some (.lst l) → P H a y → P (upd H D (.lst l')) a y
def rsv {α : Type} (rs : List (Addr × α)) : List V := rs.map fun r => V.ref r.1
def RsAll {α : Type} (P : Hp → Addr → α → Prop) (H : Hp) (rs : List (Addr × α)) : Prop := ∀ r ∈ rs, P H r.1 r.2
theorem RsAll.same {α : Type} {P : Hp → Addr → α → Prop} (st : Stay P) {H H' : Hp} {rs : List (Addr × α)} (h : RsAll P H rs) (s : Same H H') : RsAll P H' rs := fun r hr => st.same (h r hr) s
theorem lc_rsF {α : Type} {P : Hp → Addr → α → Prop} (st : Stay P) {J : It} {n : Nat} {G : Hp → Prop} {Y : Nat → Hp → V → Hp → Prop} (w : Walk J n G Y) {g : TG} {tt : TT} {te : TE} {vs : List Nat} {σ : L2.St} {H1 : Hp} {D : Addr} {Qd : Hp → Prop} (ys : Nat → List α) (hy0 : ys 0 = []) (hD : H1 D = none) (hn : n ≤ 1000000)
    (hl : ∀ i, i ≤ n → (ys i).length ≤ i) (hG : ∀ H', Same H1 H' → G H') (hY : ∀ i H x H', Y i H x H' → Same H H')
    (hs : ∀ i x H H' (N : Hp → Prop) (R : VK), i < n → Same H1 H' → Y i H x H' → (ys (i + 1) = ys i → ∀ H4, Same H' H4 → N H4) → (∀ y, ys (i + 1) = ys i ++ [y] → ∀ H4 a, Same H' H4 → P H4 a y → R (.ref a) H4) → g x (wipe σ vs) H' fun σ2 H2 => wipe σ2 vs = wipe σ vs ∧ tt σ2 H2 fun b H3 => if b = true then te σ2 H3 R else N H3)
    (hd : ∀ H' rs, Same H1 H' → H' D = some (.lst (rsv rs)) → RsAll P H' rs → rs.map (·.2) = ys n → Qd H') : LoopC J g tt te vs σ H1 D Qd := by
  refine loopc_it w (fun i H => Same H1 H ∧ ∃ rs, H D = some (.lst (rsv rs)) ∧ RsAll P H rs ∧ rs.map (·.2) = ys i) ⟨same_upd hD, [], upd_same, fun _ h => (by cases h), hy0.symm⟩ (fun i H _ p => hG H p.1) (fun i x H H' hi p y => ?_) (fun H p => ?_)
  · obtain ⟨s1, rs, e1, ha, hr⟩ := p
    have hYs := hY _ _ _ _ y
    refine hs i x H H' _ _ hi (s1.trans hYs) y (fun e H4 s4 => ?_) (fun z e H4 a s4 pz => ?_)
    · exact ⟨(s1.trans hYs).trans s4, rs, s4 _ _ (hYs _ _ e1), ha.same st (hYs.trans s4), by rw [e]; exact hr⟩
    · have e4 := s4 _ _ (hYs _ _ e1)
      have hl' := hl i (by omega)
      have hlen : rs.length = (ys i).length := by rw [← hr, List.length_map]
      refine ⟨_, e4, ?_, same_upd2 (s1.trans (hYs.trans s4)) hD, rs ++ [(a, z)], ?_, fun r h => ?_, ?_⟩
      · rw [rsv, List.length_map]
        exact smallM (by omega)
      · rw [upd_same, rsv, rsv, List.map_append]
        rfl
      · rcases List.mem_append.mp h with h | h
        · exact st.lst e4 (ha.same st (hYs.trans s4) r h)
        · rw [List.mem_singleton.mp h]
          exact st.lst e4 pz
      · rw [e, List.map_append, hr]
        rfl
  · obtain ⟨s1, rs, e1, ha, hr⟩ := p
    exact hd H rs s1 e1 ha hr
theorem lc_rs {α : Type} {P : Hp → Addr → α → Prop} (st : Stay P) {J : It} {n : Nat} {G : Hp → Prop} {Y : Nat → Hp → V → Hp → Prop} (w : Walk J n G Y) {g : TG} {te : TE} {vs : List Nat} {σ : L2.St} {H1 : Hp} {D : Addr} {Qd : Hp → Prop} (ys : List α) (hD : H1 D = none) (hn : n ≤ 1000000) (hl : ys.length = n)
    (hG : ∀ H', Same H1 H' → G H') (hY : ∀ i H x H', Y i H x H' → Same H H')
    (hs : ∀ i x y H H' (R : VK), i < n → ys[i]? = some y → Same H1 H' → Y i H x H' → (∀ H4 a, Same H' H4 → P H4 a y → R (.ref a) H4) → g x (wipe σ vs) H' fun σ2 H2 => wipe σ2 vs = wipe σ vs ∧ te σ2 H2 R)
    (hd : ∀ H' rs, Same H1 H' → H' D = some (.lst (rsv rs)) → RsAll P H' rs → rs.map (·.2) = ys → Qd H') : LoopC J g tYes te vs σ H1 D Qd := by
  refine lc_rsF st w (fun i => ys.take i) List.take_zero hD hn (fun i hi => by rw [List.length_take]; omega) hG hY (fun i x H H' N R hi s1 y kN kR => ?_) (fun H' rs s e a hr => hd H' rs s e a (by rw [hr, ← hl, List.take_length]))
  have hi' : i < ys.length := by omega
  have e : ys[i]? = some ys[i] := List.getElem?_eq_getElem hi'
  have q := hs i x ys[i] H H' R hi e s1 y (fun H4 a s4 p => kR _ (by rw [List.take_succ_eq_append_getElem hi']) H4 a s4 p)
  exact q
/-- [1 for x in xs if t(x)]: how many there are -/
theorem lc_count {J : It} {n : Nat} {G : Hp → Prop} {Y : Nat → Hp → V → Hp → Prop} (w : Walk J n G Y) {g : TG} {tt : TT} {te : TE} {vs : List Nat} {σ : L2.St} {H1 : Hp} {D : Addr} {Qd : Hp → Prop} (b : Nat → Bool) (f : Nat → V) (hD : H1 D = none) (hn : n ≤ 1000000)
    (hG : ∀ H', Same H1 H' → G H') (hY : ∀ i H x H', Y i H x H' → Same H H')
    (hs : ∀ i x H H' (N : Hp → Prop) (R : VK), i < n → Same H1 H' → Y i H x H' → (b i = false → ∀ H4, Same H' H4 → N H4) → (b i = true → ∀ H4, Same H' H4 → R (f i) H4) → g x (wipe σ vs) H' fun σ2 H2 => wipe σ2 vs = wipe σ vs ∧ tt σ2 H2 fun b H3 => if b = true then te σ2 H3 R else N H3)
    (hd : ∀ H', Same H1 H' → H' D = some (.lst (((List.range n).filter b).map f)) → Qd H') : LoopC J g tt te vs σ H1 D Qd := by
  refine loopc_it w (fun i H => Same H1 H ∧ H D = some (.lst (((List.range i).filter b).map f))) ⟨same_upd hD, upd_same⟩ (fun i H _ p => hG H p.1) (fun i x H H' hi p y => ?_) (fun H p => hd H p.1 p.2)
  have hYs := hY _ _ _ _ y
  refine hs i x H H' _ _ hi (p.1.trans hYs) y (fun hb H4 s4 => ⟨p.1.trans (hYs.trans s4), ?_⟩) (fun hb H4 s4 => ⟨_, s4 _ _ (hYs _ _ p.2), ?_, same_upd2 (p.1.trans (hYs.trans s4)) hD, ?_⟩)
  · rw [List.range_succ, List.filter_append, List.filter_cons, hb, if_neg (by decide), List.filter_nil, List.append_nil]
    exact s4 _ _ (hYs _ _ p.2)
  · rw [List.length_map]
    exact smallM (Nat.le_trans (List.length_filter_le _ _) (by rw [List.length_range]; omega))
  · rw [upd_same, List.range_succ, List.filter_append, List.filter_cons, hb, if_pos rfl, List.filter_nil, List.map_append]
    rfl
theorem range_filter_any {α : Type} (d : α) (b : α → Bool) : ∀ ys : List α, (List.range ys.length).any (fun i => b (ys[i]?.getD d)) = ys.any b := fun ys => by
  conv => rhs; rw [← range_getD d ys, List.any_map]
  rfl
theorem filter_len_pos {α : Type} (l : List α) (b : α → Bool) : decide (0 < ((l.filter b).length : Int)) = l.any b := by
  induction l with
  | nil => rfl
  | cons x r ih =>
    rw [List.filter_cons, List.any_cons]
    cases hb : b x with
    | true =>
      rw [if_pos rfl, List.length_cons]
      exact decide_eq_true (by omega)
    | false =>
      rw [if_neg (by decide), ih]
      rfl
end Bs
namespace Bs
open PySem L2 TL PySem.Spec PyProof.Rows PySem.SeqAt
/-- min of two tuples of ints -/
def rMinI (K : PySem.W.Frag) : List V → Hp → VK → Prop := fun xs H Q => ∃ (a b : Addr) (e1 e2 : List Int), xs = [.ref a, .ref b] ∧ SqT K H a (e1.map V.int) ∧ SqT K H b (e2.map V.int) ∧ Q (if HT.lexLt e2 e1 then .ref b else .ref a) H
theorem call_minI {X : Cx} (hc : X.calm = true) (hu : X.A.units + 64 < cLine) : CallR X (.builtin "min") (rMinI X.K) := by
  intro pins s σ H xs us Q I r h
  obtain ⟨a, b, e1, e2, rfl, ha, hb, g⟩ := h
  obtain ⟨u1, u2, rfl, r1, r2⟩ := vals2 r
  obtain rfl : u1 = Value.ref a := r1
  obtain rfl : u2 = Value.ref b := r2
  obtain ⟨i1, v1, pa, _⟩ := I.tuple ha
  obtain ⟨i2, v2, pb, _⟩ := I.tuple hb
  have cmp : ∀ (s' : Shared), (∀ c o, s.heap.get? c = some o → s'.heap.get? c = some o) → ∀ (c d : Addr) (j1 j2 : List Value) (f1 f2 : List Int), IsTup s.heap c j1.toArray → IsTup s.heap d j2.toArray →
      Vals (f1.map V.int) j1 → Vals (f2.map V.int) j2 → LtAt X.A.in1 s' (.ref c) (.ref d) (HT.lexLt f1 f2) := fun s' k c d j1 j2 f1 f2 hc' hd' w1 w2 =>
    ltAt_ints (tup_kept k hc') (tup_kept k hd') (intsAre_of w1) (intsAre_of w2) (by show X.A.units + 1 < cLine; omega)
  refine min_pair (I.ok.hd hc) (fun i => if i = 0 then e1 else e2) (fun s' k i j x y hx hy => ?_) fun h' tk k => ⟨_, H, I.kept k, ?_, g⟩
  · have sp : ∀ (i : Nat) (x : Value), (#[Value.ref a, Value.ref b] : Array Value)[i]? = some x → (i = 0 ∧ x = .ref a) ∨ (i = 1 ∧ x = .ref b) := fun i x hx => by
      match i with
      | 0 => exact .inl ⟨rfl, (Option.some.inj hx).symm⟩
      | 1 => exact .inr ⟨rfl, (Option.some.inj hx).symm⟩
      | n + 2 => simp at hx
    rcases sp i x hx with ⟨rfl, rfl⟩ | ⟨rfl, rfl⟩ <;> rcases sp j y hy with ⟨rfl, rfl⟩ | ⟨rfl, rfl⟩
    · exact cmp s' k _ _ _ _ _ _ pa pa v1 v1
    · exact cmp s' k _ _ _ _ _ _ pa pb v1 v2
    · exact cmp s' k _ _ _ _ _ _ pb pa v2 v1
    · exact cmp s' k _ _ _ _ _ _ pb pb v2 v2
  · show RelV (if HT.lexLt e2 e1 = true then V.ref b else V.ref a) (if HT.lexLt e2 e1 = true then Value.ref b else Value.ref a)
    split <;> rfl
/-- [f(x) for x in a tuple, a list of ints] -/
theorem lc_tupV {K : PySem.W.Frag} {a : Addr} {xs : List Int} {g : TG} {te : TE} {vs : List Nat} {σ : L2.St} {H1 : Hp} {D : Addr} {Qd : Hp → Prop} (f : Int → V) (hX : SqT K H1 a (xs.map V.int)) (hD : H1 D = none) (hn : xs.length ≤ 1000000)
    (hs : ∀ x H' (R : VK), x ∈ xs → Same H1 H' → (∀ H4, Same H' H4 → R (f x) H4) → g (.int x) (wipe σ vs) H' fun σ2 H2 => wipe σ2 vs = wipe σ vs ∧ te σ2 H2 R)
    (hd : ∀ H', Same H1 H' → H' D = some (.lst (xs.map f)) → Qd H') : LoopC (Itt K a) g tYes te vs σ H1 D Qd := by
  refine lc_yat (walk_tup (xs := xs.map V.int)) rfl (fun v => match v with | .int x => f x | v => v) hD (by rw [List.length_map]; exact hn) (fun H' s => sameT s hX) (fun x H' R hx s1 k => ?_) (fun H' s' e => hd H' s' ?_)
  · obtain ⟨z, hz, rfl⟩ := List.mem_map.mp hx
    exact hs z H' R hz s1 k
  · rw [e, List.map_map]
    rfl
theorem lc_lstV {K : PySem.W.Frag} {a : Addr} {xs : List Int} {g : TG} {te : TE} {vs : List Nat} {σ : L2.St} {H1 : Hp} {D : Addr} {Qd : Hp → Prop} (f : Int → V) (hX : SqL K H1 a (xs.map V.int)) (hD : H1 D = none) (hn : xs.length ≤ 1000000)
    (hs : ∀ x H' (R : VK), x ∈ xs → Same H1 H' → (∀ H4, Same H' H4 → R (f x) H4) → g (.int x) (wipe σ vs) H' fun σ2 H2 => wipe σ2 vs = wipe σ vs ∧ te σ2 H2 R)
    (hd : ∀ H', Same H1 H' → H' D = some (.lst (xs.map f)) → Qd H') : LoopC (Itl K a) g tYes te vs σ H1 D Qd := by
  refine lc_yat (walk_list (xs := xs.map V.int)) rfl (fun v => match v with | .int x => f x | v => v) hD (by rw [List.length_map]; exact hn) (fun H' s => s.seq hX) (fun x H' R hx s1 k => ?_) (fun H' s' e => hd H' s' ?_)
  · obtain ⟨z, hz, rfl⟩ := List.mem_map.mp hx
    exact hs z H' R hz s1 k
  · rw [e, List.map_map]
    rfl
/-- within a comprehension: the fragment is told -/
theorem pi_tupK {X : Cx} {K : PySem.W.Frag} {tg l : Expr} {tl : TE} (hK : X.K = K) (hl : PE X l tl) : PI X tg l (iTup K tl) := by
  subst hK
  exact pi_tup hl
theorem pi_listK {X : Cx} {K : PySem.W.Frag} {tg l : Expr} {tl : TE} (hK : X.K = K) (hl : PE X l tl) : PI X tg l (iList K tl) := by
  subst hK
  exact pi_list hl
theorem op_eqDK {X : Cx} {K : PySem.W.Frag} (hK : X.K = K) (hu : X.A.units + 64 < cLine) : OpR X (compareOp .Eq) (rEqD K) := by
  subst hK
  exact op_eqD hu
theorem op_neDK {X : Cx} {K : PySem.W.Frag} (hK : X.K = K) (hu : X.A.units + 64 < cLine) : OpR X (compareOp .NotEq) (rNeD K) := by
  subst hK
  exact op_neD hu
/-! ### slices of tuples -/
theorem sl_gen {K : PySem.W.Frag} {H : Hp} {a : Addr} {xs : List V} {lo hi : Option Int} {Q : VK} (h : SqT K H a xs) (q : ∀ H' p, Same H H' → SqT K H' p (cutV xs lo hi) → Q (.ref p) H') : rSlA K (.ref a) lo hi H Q := by
  refine ⟨a, xs, rfl, h, fun z => q H a (Same.refl _) ?_, fun _ p np => q _ p (same_upd np) (SqT.of upd_same)⟩
  have e : cutV xs lo hi = xs := by
    unfold cutV
    rw [z.1, z.2, List.drop_zero, Nat.sub_zero, List.take_length]
  rw [e]
  exact h
theorem cut_last (xs : List V) (x : V) : cutV (xs ++ [x]) (some (-1)) none = [x] := by
  unfold cutV
  rw [HT.sIx_none, List.length_append, List.length_singleton]
  have e : HT.sIx (xs.length + 1) 0 (some (-1)) = xs.length := by
    show (if (-1 : Int) < 0 then ((-1 : Int) + ((xs.length + 1 : Nat) : Int)).toNat else min (-1 : Int).toNat (xs.length + 1)) = xs.length
    rw [if_pos (by decide)]
    omega
  rw [e, List.drop_left, show xs.length + 1 - xs.length = 1 by omega]
  rfl
theorem sl_last {K : PySem.W.Frag} {H : Hp} {a : Addr} {xs : List V} {x : V} {Q : VK} (h : SqT K H a (xs ++ [x])) (q : ∀ H' p, Same H H' → SqT K H' p [x] → Q (.ref p) H') : rSlA K (.ref a) (some (-1)) none H Q :=
  sl_gen h (by rw [cut_last]; exact q)
theorem Stm.put {H : Hp} {st d p la : Addr} {o : HO} (x : Stm H st d p) (n1 : st ≠ la) (n2 : d ≠ la) (n3 : p ≠ la) : Stm (upd H la o) st d p :=
  ⟨by rw [upd_ne n1]; exact x.at_, let ⟨ds, h, n⟩ := x.dg; ⟨ds, by rw [upd_ne n2]; exact h, n⟩, let ⟨i, h⟩ := x.pl; ⟨i, by rw [upd_ne n3]; exact h⟩, x.n1, x.n2⟩
/-! ### a comprehension with two loops -/
def LoopI (J1 : It) (g1 : TG) (tt1 : TT) (te : TE) (vs1 : List Nat) (σ2 : L2.St) (H4 : Hp) (D : Addr) (N : Hp → Prop) : Prop := ∃ W1 : Nat → Nat → Hp → Prop, (∃ m, W1 0 m H4) ∧ ∀ j k H, W1 j k H →
  (J1.stop j H ∧ N H) ∨ (J1.go j H ∧ ∃ Nx1 : Hp → Prop, (∀ H', Nx1 H' → ∃ k', k' < k ∧ W1 (j + 1) k' H') ∧ ∀ x H', J1.yld j H x H' → g1 x (wipe σ2 vs1) H' fun σ3 H5 => wipe σ3 vs1 = wipe σ2 vs1 ∧ tt1 σ3 H5 fun b H6 =>
    if b = true then te σ3 H6 fun y H7 => ∃ acc, H7 D = some (.lst acc) ∧ acc.length < sizeLine ∧ Nx1 (upd H7 D (.lst (acc ++ [y]))) else Nx1 H6)
def LoopC2 (J : It) (g : TG) (tt : TT) (wi1 : TI) (g1 : TG) (tt1 : TT) (te : TE) (vs vs1 : List Nat) (σ : L2.St) (H1 : Hp) (D : Addr) (Qd : Hp → Prop) : Prop := ∃ W : Nat → Nat → Hp → Prop, (∃ m, W 0 m (upd H1 D (.lst []))) ∧ ∀ i m H, W i m H →
  (J.stop i H ∧ Qd H) ∨ (J.go i H ∧ ∃ Nx : Hp → Prop, (∀ H', Nx H' → ∃ m', m' < m ∧ W (i + 1) m' H') ∧ ∀ x H', J.yld i H x H' → g x (wipe σ vs) H' fun σ2 H2 => wipe σ2 vs = wipe σ vs ∧ tt σ2 H2 fun b H3 =>
    if b = true then wi1 σ2 H3 fun J1 H4 => LoopI J1 g1 tt1 te vs1 σ2 H4 D Nx else Nx H3)
theorem lc2_eq (wi : TI) (g : TG) (tt : TT) (wi1 : TI) (g1 : TG) (tt1 : TT) (te : TE) (vs vs1 : List Nat) (σ : L2.St) (H : Hp) (Q : VK) : tLc2 wi g tt wi1 g1 tt1 te vs vs1 σ H Q = wi σ H fun J H1 => ∀ D, H1 D = none → LoopC2 J g tt wi1 g1 tt1 te vs vs1 σ H1 D (fun H => Q (.ref D) H) := rfl
theorem loopc2_it {J : It} {n : Nat} {G : Hp → Prop} {Y : Nat → Hp → V → Hp → Prop} (w : Walk J n G Y) {g : TG} {tt : TT} {wi1 : TI} {g1 : TG} {tt1 : TT} {te : TE} {vs vs1 : List Nat} {σ : L2.St} {H1 : Hp} {D : Addr} {Qd : Hp → Prop} (Pv : Nat → Hp → Prop) (h0 : Pv 0 (upd H1 D (.lst []))) (hG : ∀ i H, i ≤ n → Pv i H → G H)
    (hs : ∀ i x H H', i < n → Pv i H → Y i H x H' → g x (wipe σ vs) H' fun σ2 H2 => wipe σ2 vs = wipe σ vs ∧ tt σ2 H2 fun b H3 =>
      if b = true then wi1 σ2 H3 fun J1 H4 => LoopI J1 g1 tt1 te vs1 σ2 H4 D (Pv (i + 1)) else Pv (i + 1) H3) (hd : ∀ H, Pv n H → Qd H) : LoopC2 J g tt wi1 g1 tt1 te vs vs1 σ H1 D Qd := by
  refine ⟨fun i m H => m = n - i ∧ i ≤ n ∧ Pv i H, ⟨n, by simp, Nat.zero_le _, h0⟩, ?_⟩
  rintro i m H ⟨rfl, hi, p⟩
  have q := hG i H hi p
  by_cases hlt : i < n
  · refine .inr ⟨w.goes i H hlt q, Pv (i + 1), fun H' p' => ⟨n - (i + 1), by omega, rfl, hlt, p'⟩, fun x H' y => hs i x H H' hlt p (w.yields i H x H' hlt q y)⟩
  · have e : i = n := by omega
    subst e
    exact .inl ⟨w.stops H q, hd H p⟩
theorem loopi_it {J : It} {n : Nat} {G : Hp → Prop} {Y : Nat → Hp → V → Hp → Prop} (w : Walk J n G Y) {g : TG} {tt : TT} {te : TE} {vs : List Nat} {σ : L2.St} {H1 : Hp} {D : Addr} {Qd : Hp → Prop} (Pv : Nat → Hp → Prop) (h0 : Pv 0 H1) (hG : ∀ i H, i ≤ n → Pv i H → G H)
    (hs : ∀ i x H H', i < n → Pv i H → Y i H x H' → g x (wipe σ vs) H' fun σ2 H2 => wipe σ2 vs = wipe σ vs ∧ tt σ2 H2 fun b H3 =>
      if b = true then te σ2 H3 fun y H4 => ∃ acc, H4 D = some (.lst acc) ∧ acc.length < sizeLine ∧ Pv (i + 1) (upd H4 D (.lst (acc ++ [y]))) else Pv (i + 1) H3) (hd : ∀ H, Pv n H → Qd H) : LoopI J g tt te vs σ H1 D Qd := by
  refine ⟨fun i m H => m = n - i ∧ i ≤ n ∧ Pv i H, ⟨n, by simp, Nat.zero_le _, h0⟩, ?_⟩
  rintro i m H ⟨rfl, hi, p⟩
  have q := hG i H hi p
  by_cases hlt : i < n
  · refine .inr ⟨w.goes i H hlt q, Pv (i + 1), fun H' p' => ⟨n - (i + 1), by omega, rfl, hlt, p'⟩, fun x H' y => hs i x H H' hlt p (w.yields i H x H' hlt q y)⟩
  · have e : i = n := by omega
    subst e
    exact .inl ⟨w.stops H q, hd H p⟩
/-- [x for x in xs if b(x)], of a list of objects -/
theorem lc_filt {α : Type} {K : PySem.W.Frag} {a : Addr} {rs : List (Addr × α)} {g : TG} {tt : TT} {te : TE} {vs : List Nat} {σ : L2.St} {H1 : Hp} {D : Addr} {Qd : Hp → Prop} (b : α → Bool) (hX : SqL K H1 a (rsv rs)) (hD : H1 D = none) (hn : rs.length ≤ 1000000)
    (hs : ∀ r H' (N : Hp → Prop) (R : VK), r ∈ rs → Same H1 H' → (b r.2 = false → ∀ H4, Same H' H4 → N H4) → (b r.2 = true → ∀ H4, Same H' H4 → R (.ref r.1) H4) → g (.ref r.1) (wipe σ vs) H' fun σ2 H2 => wipe σ2 vs = wipe σ vs ∧ tt σ2 H2 fun b H3 => if b = true then te σ2 H3 R else N H3)
    (hd : ∀ H', Same H1 H' → H' D = some (.lst (rsv (rs.filter fun r => b r.2))) → Qd H') : LoopC (Itl K a) g tt te vs σ H1 D Qd := by
  refine loopc_it (walk_list (xs := rsv rs)) (fun i H => Same H1 H ∧ H D = some (.lst (rsv ((rs.take i).filter fun r => b r.2)))) ⟨same_upd hD, upd_same⟩ (fun i H _ p => p.1.seq hX) (fun i x H H' hi p y => ?_) (fun H p => hd H p.1 ?_)
  · obtain ⟨rfl, e⟩ := yat_at y
    rw [rsv, List.length_map] at hi
    rw [rsv, List.getElem?_map, List.getElem?_eq_getElem hi] at e
    cases e
    have hm := List.getElem_mem hi
    have et : rs.take (i + 1) = rs.take i ++ [rs[i]] := List.take_succ_eq_append_getElem hi
    generalize rs[i] = r at *
    refine hs r _ _ _ hm p.1 (fun hb H4 s4 => ⟨p.1.trans s4, ?_⟩) (fun hb H4 s4 => ⟨_, s4 _ _ p.2, ?_, same_upd2 (p.1.trans s4) hD, ?_⟩)
    · rw [et, List.filter_append, List.filter_cons, hb, if_neg (by decide), List.filter_nil, List.append_nil]
      exact s4 _ _ p.2
    · rw [rsv, List.length_map]
      exact smallM (Nat.le_trans (List.length_filter_le _ _) (by rw [List.length_take]; omega))
    · rw [upd_same, et, List.filter_append, List.filter_cons, hb, if_pos rfl, List.filter_nil, rsv, rsv, List.map_append]
      rfl
  · rw [p.2, show (rsv rs).length = rs.length from List.length_map .., List.take_length]
/-- [f(x) for x in xs], a list of objects, values that are no objects -/
theorem lc_objV {α : Type} {K : PySem.W.Frag} {a : Addr} {rs : List (Addr × α)} {g : TG} {te : TE} {vs : List Nat} {σ : L2.St} {H1 : Hp} {D : Addr} {Qd : Hp → Prop} (f : Addr × α → V) (hX : SqL K H1 a (rsv rs)) (hD : H1 D = none) (hn : rs.length ≤ 1000000)
    (hs : ∀ r H' (R : VK), r ∈ rs → Same H1 H' → (∀ H4, Same H' H4 → R (f r) H4) → g (.ref r.1) (wipe σ vs) H' fun σ2 H2 => wipe σ2 vs = wipe σ vs ∧ te σ2 H2 R)
    (hd : ∀ H', Same H1 H' → H' D = some (.lst (rs.map f)) → Qd H') : LoopC (Itl K a) g tYes te vs σ H1 D Qd := by
  refine lc_ys (walk_list (xs := rsv rs)) (rs.map f) hD (by rw [rsv, List.length_map]; exact hn) (by rw [rsv, List.length_map, List.length_map]) (fun H' s => s.seq hX) yat_same (fun i x y H1 H2 R hi hy s1 yy k => ?_) hd
  obtain ⟨rfl, e⟩ := yat_at yy
  rw [rsv, List.length_map] at hi
  rw [rsv, List.getElem?_map, List.getElem?_eq_getElem hi] at e
  rw [List.getElem?_map, List.getElem?_eq_getElem hi] at hy
  cases e
  cases hy
  exact hs _ _ R (List.getElem_mem hi) s1 k
end Bs
namespace Bs
open PySem L2 TL PySem.Spec PyProof.Rows PySem.SeqAt
/-! ### math.lcm -/
def rLcm : List V → Hp → VK → Prop := fun vs H Q => ∃ a b : Int, vs = [.int a, .int b] ∧ a.natAbs < 2 ^ 60 ∧ b.natAbs < 2 ^ 60 ∧ Q (.int ((Nat.lcm a.natAbs b.natAbs : Nat) : Int)) H
theorem cr_lcm {X : Cx} : CallR X (.builtin "math.lcm") rLcm := by
  intro pins s σ H vs us Q I r h
  obtain ⟨a, b, rfl, ha, hb, q⟩ := h
  obtain ⟨t, u, rfl⟩ := Vals.int2 r
  have e1 : Nat.lcm 1 a.natAbs = a.natAbs := by simp [Nat.lcm]
  refine PySem.W.mg_lcm (Nat.lt_trans ha (by decide)) (Nat.lt_trans hb (by decide)) ?_ ⟨.int _, H, I.tok _, ⟨_, rfl⟩, by rw [e1]; exact q⟩
  rw [e1, Int.natAbs_natCast]
  have h1 : a.natAbs.lcm b.natAbs ≤ a.natAbs * b.natAbs := by
    unfold Nat.lcm
    exact Nat.div_le_self _ _
  have h2 : a.natAbs * b.natAbs < 2 ^ 120 := by
    rcases Nat.eq_zero_or_pos b.natAbs with h0 | h0
    · rw [h0, Nat.mul_zero]
      exact Nat.pow_pos (by decide)
    · calc a.natAbs * b.natAbs < 2 ^ 60 * b.natAbs := Nat.mul_lt_mul_of_pos_right ha h0
        _ ≤ 2 ^ 60 * 2 ^ 60 := Nat.mul_le_mul_left _ (Nat.le_of_lt hb)
        _ = 2 ^ 120 := by decide
  have h3 := log2_le_of (Nat.lt_of_le_of_lt h1 h2)
  have : (120 : Nat) < bitsLine := by decide
  omega
/-! ### max(xs, default=d) -/
def rMaxD (K : PySem.W.Frag) : List V → List V → Hp → VK → Prop := fun vs zs H Q => ∃ (a : Addr) (ns : List Int) (d : Int), vs = [.ref a] ∧ zs = [.int d] ∧ SqL K H a (ns.map V.int) ∧ (ns = [] → Q (.int d) H) ∧ (ns ≠ [] → ∀ m, m ∈ ns → (∀ y, y ∈ ns → y ≤ m) → Q (.int m) H)
theorem cr_maxD {X : Cx} (hc : X.calm = true) : CallRK X (.builtin "max") ["default"] (rMaxD X.K) := by
  intro pins s σ H vs zs us ws Q I r rz h
  obtain ⟨a, ns, d, rfl, rfl, hs, q0, q1⟩ := h
  obtain ⟨its, rv, hl, _⟩ := I.list hs
  rw [Vals.ref1 r]
  have hw : ∃ t, ws = [.int d t] := by
    cases rz with
    | cons r1 r2 =>
      obtain ⟨t, rfl⟩ := r1
      cases r2
      exact ⟨t, rfl⟩
  obtain ⟨t, rfl⟩ := hw
  show wpAny _ _ (call (.builtin "max") [.ref a] [(Str.ofString "default", .int d t)]) _ _ _
  have hi := rv.ints
  have hlen : its.length = ns.length := by
    have := rv.length
    rw [List.length_map] at this
    exact this.symm
  obtain ⟨xs, e⟩ := hi.allInts.items
  have hn : numsOf (intItems xs).toList = ns := by rw [← e]; exact hi.numsOf
  rw [nums_intItems] at hn
  have hl' := hl.isList
  rw [e] at hl'
  have hsz : (intItems xs).size = xs.size := by simp [intItems]
  refine call_max_walkD (PySem.W.iter_listW (A := X.A.in1) (I.ok.hd hc) hl' fun s₂ e2 W st hfp hw hk => ?_)
  refine ⟨_, _, _, _, _, _, _, s.heap, (fun i j => decide (numAt xs i > numAt xs j)), rfl, W, st, hfp, hw, hk, fun hz s' m => ?_, fun hp => ⟨fun i j vi vj s' Q' E' _ h1 h2 h3 => CmpOf.ints_gt (numAt xs) (fun _ _ => intItems_at) i j vi vj s' Q' E' h1 h2 h3, fun v s' hP m => ?_⟩⟩
  · obtain ⟨h', tk, rfl, hk'⟩ := PySem.W.moved_old e2 rfl m
    have hnil : ns = [] := by
      rw [← hn]
      have : xs.toList.length = 0 := by rw [Array.length_toList]; omega
      rw [List.eq_nil_of_length_eq_zero this]
      rfl
    exact ⟨.int d, H, I.kept hk', ⟨_, rfl⟩, q0 hnil⟩
  · obtain ⟨h', tk, rfl, hk'⟩ := PySem.W.moved_old e2 rfl m
    obtain ⟨t', rfl⟩ := intItems_at hP
    obtain ⟨h1, h2⟩ := argBest_gt (numAt xs) (xs.size - 1)
    rw [hsz] at hp
    subst hn
    have hne : xs.toList.map (·.1) ≠ [] := fun z => by
      have := congrArg List.length z
      rw [List.length_map, Array.length_toList, List.length_nil] at this
      omega
    rw [hsz]
    refine ⟨.int _, H, I.kept hk', ⟨_, rfl⟩, q1 hne _ ?_ fun y hy => ?_⟩
    · rw [numAt_eq]
      exact PySem.getD_mem (by rw [List.length_map, Array.length_toList]; omega)
    · obtain ⟨j, hj, rfl⟩ := PySem.mem_getD hy
      rw [List.length_map, Array.length_toList] at hj
      rw [← numAt_eq]
      exact h2 j (by omega)
end Bs
namespace Bs
open PySem L2 TL PySem.Spec PyProof.Rows PySem.SeqAt
/-! ### x not in an own object -/
section
variable {X : Cx} {CX : CXT} {k : Nat} {f C : Addr} {fd : FuncData} {ps : List Str} {sp : Sp}
def rNotInO (C : Addr) (sp : Sp) : R2 := rInO C (fun vs H Q E => sp vs H (fun v H' => ∃ b, v = .bl b ∧ Q (.bl (!b)) H') E)
theorem op_notInO (S : DunC X.K C "__contains__" f) (F : FnOk X.prog X.w X.K X.mg X.base CX k f fd ps sp) (hr : Room k X.A) (hb : Binds X.K fd ps []) (hx : Passes CX X (fun _ _ _ => False)) : OpR X (compareOp .NotIn) (rNotInO C sp) := by
  intro pins s σ H x y v u Q I rx ry h
  obtain ⟨a, dx, fs, rfl, ha, q⟩ := h
  cases ry
  obtain ⟨mA, J, _⟩ := ins_get I.hok ha
  obtain ⟨od, J, _⟩ := J.look
  obtain ⟨m, hF⟩ := I.fr
  refine PySem.W.notIn_K hF I.ok.mod.kin J S.at_ S.fn ?_
  refine wpAny_mono (run_fn (us := [.ref a, v]) (vs := [.ref a, x]) F hr hb .nil hx I (.cons rfl (.cons rx .nil)) q) (fun r s' hv => ?_) fun _ _ e => e
  obtain ⟨z, H', I', rz, b, rfl, b', e', q⟩ := hv
  cases rz
  cases e'
  exact PySem.wpAny_truthy_bool ⟨.bl _, H', I', rfl, q⟩
end
/-! ### min(xs, default=d) -/
def rMinD (K : PySem.W.Frag) : List V → List V → Hp → VK → Prop := fun vs zs H Q => ∃ (a : Addr) (ns : List Int) (d : Int), vs = [.ref a] ∧ zs = [.int d] ∧ SqL K H a (ns.map V.int) ∧ (ns = [] → Q (.int d) H) ∧ (ns ≠ [] → ∀ m, m ∈ ns → (∀ y, y ∈ ns → m ≤ y) → Q (.int m) H)
theorem cr_minD {X : Cx} (hc : X.calm = true) : CallRK X (.builtin "min") ["default"] (rMinD X.K) := by
  intro pins s σ H vs zs us ws Q I r rz h
  obtain ⟨a, ns, d, rfl, rfl, hs, q0, q1⟩ := h
  obtain ⟨its, rv, hl, _⟩ := I.list hs
  rw [Vals.ref1 r]
  have hw : ∃ t, ws = [.int d t] := by
    cases rz with
    | cons r1 r2 =>
      obtain ⟨t, rfl⟩ := r1
      cases r2
      exact ⟨t, rfl⟩
  obtain ⟨t, rfl⟩ := hw
  show wpAny _ _ (call (.builtin "min") [.ref a] [(Str.ofString "default", .int d t)]) _ _ _
  have hi := rv.ints
  have hlen : its.length = ns.length := by
    have := rv.length
    rw [List.length_map] at this
    exact this.symm
  obtain ⟨xs, e⟩ := hi.allInts.items
  have hn : numsOf (intItems xs).toList = ns := by rw [← e]; exact hi.numsOf
  rw [nums_intItems] at hn
  have hl' := hl.isList
  rw [e] at hl'
  have hsz : (intItems xs).size = xs.size := by simp [intItems]
  refine call_min_walkD (PySem.W.iter_listW (A := X.A.in1) (I.ok.hd hc) hl' fun s₂ e2 W st hfp hw hk => ?_)
  refine ⟨_, _, _, _, _, _, _, s.heap, (fun i j => decide (numAt xs i < numAt xs j)), rfl, W, st, hfp, hw, hk, fun hz s' m => ?_, fun hp => ⟨fun i j vi vj s' Q' E' _ h1 h2 h3 => CmpOf.ints_lt (numAt xs) (fun _ _ => intItems_at) i j vi vj s' Q' E' h1 h2 h3, fun v s' hP m => ?_⟩⟩
  · obtain ⟨h', tk, rfl, hk'⟩ := PySem.W.moved_old e2 rfl m
    have hnil : ns = [] := by
      rw [← hn]
      have : xs.toList.length = 0 := by rw [Array.length_toList]; omega
      rw [List.eq_nil_of_length_eq_zero this]
      rfl
    exact ⟨.int d, H, I.kept hk', ⟨_, rfl⟩, q0 hnil⟩
  · obtain ⟨h', tk, rfl, hk'⟩ := PySem.W.moved_old e2 rfl m
    obtain ⟨t', rfl⟩ := intItems_at hP
    obtain ⟨h1, h2⟩ := argBest_lt (numAt xs) (xs.size - 1)
    rw [hsz] at hp
    subst hn
    have hne : xs.toList.map (·.1) ≠ [] := fun z => by
      have := congrArg List.length z
      rw [List.length_map, Array.length_toList, List.length_nil] at this
      omega
    rw [hsz]
    refine ⟨.int _, H, I.kept hk', ⟨_, rfl⟩, q1 hne _ ?_ fun y hy => ?_⟩
    · rw [numAt_eq]
      exact PySem.getD_mem (by rw [List.length_map, Array.length_toList]; omega)
    · obtain ⟨j, hj, rfl⟩ := PySem.mem_getD hy
      rw [List.length_map, Array.length_toList] at hj
      rw [← numAt_eq]
      exact h2 j (by omega)
end Bs
namespace Bs
open PySem L2 TL PySem.Spec PyProof.Rows PySem.SeqAt
/-- int(True), int(False) -/
theorem call_intBl {X : Cx} : CallR X (.type "int") (fun xs H Q => ∃ k : Bool, xs = [.bl k] ∧ Q (.int (if k = true then 1 else 0)) H) := by
  intro pins s σ H xs us Q I r h
  exact call_int1 pins s σ H xs us Q I r (.inr h)
/-! ### math.lcm, wide -/
def rLcmW : List V → Hp → VK → Prop := fun vs H Q => ∃ a b : Int, vs = [.int a, .int b] ∧ Sz 13000 a ∧ Sz 13000 b ∧ Q (.int ((Nat.lcm a.natAbs b.natAbs : Nat) : Int)) H
theorem cr_lcmW {X : Cx} : CallR X (.builtin "math.lcm") rLcmW := by
  intro pins s σ H vs us Q I r h
  obtain ⟨a, b, rfl, ha, hb, q⟩ := h
  obtain ⟨t, u, rfl⟩ := Vals.int2 r
  have e1 : Nat.lcm 1 a.natAbs = a.natAbs := by simp [Nat.lcm]
  have ha' : a.natAbs < 2 ^ 13000 := ha
  have hb' : b.natAbs < 2 ^ 13000 := hb
  have g0 : ∀ n : Nat, n < 2 ^ 13000 → ¬ (n.log2 / 30 + 1 > 450) := fun n h => by
    have := log2_le_of h
    omega
  have one : (1 : Nat) < 2 ^ 13000 := Nat.one_lt_two_pow (by omega)
  have h1 : ¬ (max 1 a.natAbs).log2 / 30 + 1 > 450 := g0 _ (Nat.max_lt.mpr ⟨one, ha'⟩)
  have h2 : ¬ (max a.natAbs b.natAbs).log2 / 30 + 1 > 450 := g0 _ (Nat.max_lt.mpr ⟨ha', hb'⟩)
  have h3 : a.natAbs.lcm b.natAbs ≤ a.natAbs * b.natAbs := by
    unfold Nat.lcm
    exact Nat.div_le_self _ _
  have h4 : a.natAbs.lcm b.natAbs < 2 ^ 26000 := by
    refine Nat.lt_of_le_of_lt h3 ?_
    have : a.natAbs * b.natAbs < 2 ^ 13000 * 2 ^ 13000 := Nat.mul_lt_mul'' ha' hb'
    rwa [← Nat.pow_add] at this
  have hsz : ((((Nat.lcm 1 a.natAbs).lcm b.natAbs : Nat) : Int)).natAbs.log2 < PySem.bitsLine := by
    rw [e1, Int.natAbs_natCast]
    exact Nat.lt_of_le_of_lt (log2_le_of h4) (by decide)
  refine call_function_meets PySem.W.MGF.kind_lcm PySem.W.MGF.plain_lcm PySem.W.MGF.entry_lcm (PySem.W.MGF.args_lcm _ _) (PySem.W.mg_run_lcm a t b u h1 h2 hsz).meets ?_
  exact ⟨.int _, H, I.tok _, ⟨_, rfl⟩, by rw [e1]; exact q⟩
/-! ### a call of a parameter that holds a def, where an error may come out -/
section
variable {X : Cx} {CX : CXT} {k i : Nat} {f : Addr} {fd : FuncData} {ps : List Str} {sp : Sp} {E : L2.St → XK} {x : Str} {p pos : Pos} {e : Expr} {es : List Expr} {t : TA}
def tCallLS (i : Nat) (f : Addr) (sp : Sp) (E : L2.St → XK) (t : TA) : TE := fun σ H Q => σ[i]? = some (some (.ref f)) ∧ t σ H fun vs H1 => sp vs H1 Q (E σ)
theorem pe_callLS (F : FnOk X.prog X.w X.K X.mg X.base CX k f fd ps sp) (hr : Room k X.A) (hN : X.N[i]? = some x) (hv : Vis X.env.scope x) (hk : PySem.W.keepIn X.K (.ref f) = true) (hb : Binds X.K fd ps []) (hx : ∀ σ, PassesAt CX X σ (E σ)) (ha : PA X (e :: es) t)
    (hdb : (x == ("__debug__" : Str)) = false := by decide) (hcd : (x == ("__classdict__" : Str)) = false := by decide)
    (he : starEach (e :: es) X.env = (false, eval e X.env) :: starEach es X.env := by rfl) (hpl : (backTo pos (starEach es X.env)).any (·.1) = false := by rfl) : PE X (.Call (.Name x p) (e :: es) [] pos) (tCallLS i f sp E t) := by
  refine ⟨fun pins s σ H Q I h => ?_⟩
  obtain ⟨hs, ht⟩ := h
  refine wpAny_Call_Name_kw (thn ((pe_var (pos := p) hN hv hdb hcd).run pins s σ H (fun v H1 => v = .ref f ∧ H1 = H) I ⟨.ref f, hs, rfl, rfl⟩) fun u s1 ⟨v, H1, I1, r1, q1⟩ => ?_)
  obtain ⟨rfl, rfl⟩ := q1
  cases r1
  refine PySem.W.callWith_K (h₀ := X.base) I.ok.mod.kin hk (thn (ha.run pos pins s1 σ _ _ I1 ht) fun us s2 ⟨vs, H2, I2, r, q⟩ => ⟨I2.kIn, ?_⟩) he hpl
  exact run_fnS F hr hb (hx σ) I2 r q
end
/-! ### try .. except (X, Y): one clause, two classes, no name -/
theorem flying_push {B : Heap} {l : List Env} {a : Addr} {Z : Obj → Prop} {h h' : Heap} (k : ∀ b o, h.get? b = some o → h'.get? b = some o) (x : HandSPX.FlyingZ B l a Z h) : HandSPX.FlyingZ B l a Z h' := by
  obtain ⟨k1, k2, k3, oe, vs, T, oT, ts, he, hz, hd, h1, hnT, hTe, hT, hdT, h3⟩ := x
  exact ⟨fun b o e => k b o (k1 b o e), k2, k3.of_keeps fun b o e _ => ⟨o, k b o e, rfl⟩, oe, vs, T, oT, ts, k _ _ he, hz, hd, h1, hnT, hTe, k _ _ hT, hdT, h3⟩
/-- what the clause wishes of an error of the body -/
def wTwo (K : PySem.W.Frag) (c1 c2 : Value) (ts : Addr → Value → Option Addr → TS) (Wout : WX) (D : Ends) : WX := fun cls d σ H =>
  ∃ b, PySem.W.exmAny K cls [c1, c2] = some b ∧ (b = true → ∀ a, H a = none → ts a cls d D σ H) ∧ (b = false → Wout cls d σ H)
section
variable {X : Cx} {x1 x2 : Str} {c1 c2 : Value} {body suite : List Stmt} {b₀ : Stmt} {np1 np2 tpos pos pos' : Pos} {kk : Nat} {tb : WX → TS} {ts : Addr → Value → Option Addr → TS} {Wout : WX}
theorem ps_try_two (hs : X.stack = X.env :: X.outer) (hf : X.env.frame = some X.env.locals) (hc1 : Names X x1 c1) (hc2 : Names X x2 c2) (tk : L2N.Takes X Wout)
    (hb : ∀ (W : WX) (pn : List (Addr × Obj)) (xe : Value → Shared → Prop), L2N.Takes (X.tr pn xe) W → PassesOwn (model X.prog X.w) X.A X.env xe → PSs (X.tr pn xe) body (tb W))
    (hsu : ∀ (a : Addr) (oe : Obj) (cls : Value) (d : Option Addr) (pn : List (Addr × Obj)), L2N.Zn cls d oe → (∃ vs, oe.data = .fields vs) → PSs (X.suite a ((a, oe) :: pn)) (b₀ :: suite) (ts a cls d)) :
    PS X (.Try body [.ExceptHandler (some (.Tuple [.Name x1 np1, .Name x2 np2] kk tpos)) none (b₀ :: suite) pos'] [] [] pos) (fun D σ H => tb (wTwo X.K c1 c2 ts Wout D) D σ H) := by
  refine ⟨fun pins s σ H D I h => ?_⟩
  have ok := I.ok
  have hfr : X.A.frames = some (X.env :: X.outer) := by rw [ok.frames, hs]
  refine wpAny_Try_except ?_
  refine wpAny_mono ((hb (wTwo X.K c1 c2 ts Wout D) (X.pn ++ pins) (fun e s₁ => wpAny (model X.prog X.w) X.A (noteFrame e X.env) (fun _ s₂ => wpAny (model X.prog X.w) X.A (setFlight e none) (fun _ s₃ =>
    wpAny (model X.prog X.w) X.A (handleBy e X.env [.ExceptHandler (some (.Tuple [.Name x1 np1, .Name x2 np2] kk tpos)) none (b₀ :: suite) pos']) (SP X pins D) X.xe s₃) X.xe s₂) X.xe s₁) (fun u s' xx => ?_) PassesOwn.looking).run [] s σ H D (I.toTry _) h) (fun f s1 hsp => ?_) (fun e s1 he => he)
  · -- the catch
    obtain ⟨a, B, sI, pins', σ', H', cls, d, rfl, J', nb, up, sky, na, os, ag, b, hb1, hyes, hno⟩ := xx
    have J : Inv X pins σ' H' sI := J'.ofTry ok
    have sky' : L2.Sky B (X.env :: X.outer) a (L2N.Zn cls d) X.env.locals s'.heap := by rw [← hs]; exact sky
    show wpAny (model X.prog X.w) X.A (noteFrame (.ref a) X.env) _ _ _
    refine L2N.Sky.land L2N.Zn.steady hfr hf sky' fun h3 fl3 up3 => ?_
    have J3 : Inv X pins σ' H' { s' with heap := h3 } := J.landed nb fl3.1 (up.trans up3) os ag
    obtain ⟨oe3, vs3, he3, hz3, hd3⟩ := fl3.there
    have notFr : ∀ {h : Heap} {o : Obj} {vs : Array Value}, h.FunFrames B (X.env :: X.outer) → h.get? a = some o → o.data = .fields vs → a ∉ frs (X.env :: X.outer) := fun {h o vs} ff e dd hm => by
      obtain ⟨_, o', e', hnf⟩ := ff.mem hm
      rw [e] at e'; cases e'
      exact hnf _ dd
    have nfr := notFr fl3.2.2.1 he3 hd3
    have nL : a ≠ X.env.locals := fun z => nfr (List.mem_filterMap.mpr ⟨X.env, List.mem_cons_self, by rw [hf, z]⟩)
    have nF : a ∉ X.fs := fun hm => by
      obtain ⟨e, he, q⟩ := List.mem_filterMap.mp hm
      exact nfr (List.mem_filterMap.mpr ⟨e, List.mem_cons_of_mem _ he, q⟩)
    have S3 := J3.suite he3 hd3 na nL nF
    refine wpAny_handleBy_cons (codeAny_handlers_test ?_) (by intro q; cases q)
    have test : ∀ {x : Str} {c : Value} {np : Pos} (hc : Names X x c) {Q : Value → Shared → Prop} {E : Value → Shared → Prop}, Q c { s' with heap := h3 } → wpAny (model X.prog X.w) (X.A.mark (some (.ref a))) (eval (.Name x np) X.env) Q E { s' with heap := h3 } := fun {x c np} hc {Q E} q => by
      obtain ⟨hg, hdbg, hm | ⟨hm, hv, hnn⟩⟩ := hc
      · exact ld_glob (X := X.suite a ((a, oe3) :: (X.pn ++ pins))) S3 hg hm q hdbg
      · exact ld_blt (X := X.suite a ((a, oe3) :: (X.pn ++ pins))) S3 hg hm hv q hnn hdbg
    refine wpAny_Tuple (wpAny_items_cons (test hc1 (wpAny_items_cons (test hc2 ?_)))) 
    refine wpAny_pure ⟨by show 2 ≤ sizeLine; rw [sizeLine_eq]; omega, ?_⟩
    have kk5 : ∀ b o, h3.get? b = some o → (h3.push { cls := .type "tuple", data := .seq [c1, c2].toArray }).get? b = some o := fun b o e => Heap.get?_push_of_some _ e
    have hp5 : (h3.push { cls := .type "tuple", data := .seq [c1, c2].toArray }).get? h3.objs.size = some { cls := .type "tuple", data := .seq [c1, c2].toArray } := Heap.get?_push_size h3 rfl
    have fl5 := flying_push kk5 fl3
    have up5 := up3.trans (Heap.UpToSlots.of_keeps kk5)
    have J5 : Inv X pins σ' H' { s' with heap := h3.push { cls := .type "tuple", data := .seq [c1, c2].toArray } } := J.landed nb fl5.1 (up.trans up5) os ag
    have LT : PySem.W.Looks (model X.prog X.w) (h3.push { cls := .type "tuple", data := .seq [c1, c2].toArray }) (typeOf (.ref a)) cls := fun A Q E s k q => wpAny_typeOf_ref (k _ _ (kk5 _ _ he3)) (by rw [hz3.1]; exact q)
    have LM := PySem.W.exm_tup2 (M := model X.prog X.w) (J5.kIn) LT hp5 hb1
    refine LM.here ?_
    generalize h3.push { cls := .type "tuple", data := .seq [c1, c2].toArray } = h5 at *
    cases b with
    | true =>
      refine codeAny_handlers_suite ?_
      refine HandSPX.lands_againZ fl5 fun h4 fl4 up4 => ?_
      have J4 : Inv X pins σ' H' { s' with heap := h4 } := J.landed nb fl4.1 ((up.trans up5).trans up4) os ag
      obtain ⟨oe4, vs4, he4, hz4, hd4⟩ := fl4.there
      have S4 := J4.suite he4 hd4 na nL nF
      refine wpAny_mono ((hsu a oe4 cls d (X.pn ++ pins) hz4 ⟨_, hd4⟩).run [] _ _ H' _ S4 (hyes rfl a na)) (fun f s6 hsp => ?_) (fun _ _ z => False.elim z)
      cases f with
      | next =>
        obtain ⟨σ6, H6, S6, q6⟩ := hsp
        exact ⟨_, _, S6.unsuite ok, q6⟩
      | brk =>
        obtain ⟨σ6, H6, S6, q6⟩ := hsp
        exact ⟨_, _, S6.unsuite ok, q6⟩
      | cont =>
        obtain ⟨σ6, H6, S6, q6⟩ := hsp
        exact ⟨_, _, S6.unsuite ok, q6⟩
      | ret u =>
        obtain ⟨v6, σ6, H6, S6, r6, q6⟩ := hsp
        exact ⟨_, _, _, S6.unsuite ok, r6, q6⟩
    | false =>
      show wpAny _ X.A (handleBy (.ref a) X.env []) _ _ _
      refine wpAny_handleBy_nil ?_
      obtain ⟨k1, k2, k3, oe, vs, T, oT, ts', he, hz, hd, h1, hr⟩ := id fl5
      unfold PySem.passOn
      refine wpAny_bind (wpAny_field he hd h1 ?_)
      rw [if_neg (show ¬ ((Value.ref T == Value.none) = true) from by simp)]
      have fin : wpAny (model X.prog X.w) X.A (setFlight (.ref a) X.env.frame) (fun _ s4 => wpAny (model X.prog X.w) X.A (throw (.ref a) : Sem Flow) (SP X pins D) X.xe s4) X.xe { s' with heap := h5 } := by
        rw [hf]
        refine HandSPX.setFlight_upZ fl5 fun h4 hh4 up4 => wpAny_throw (tk _ _ ?_)
        exact ⟨a, B, sI, pins, σ', H', cls, d, rfl, J, nb, (up.trans up5).trans up4, .inr (.inr (by rw [hs]; exact hh4)), na, os, ag, hno rfl⟩
      first
        | exact wpAny_bind (wpAny_pure (wpAny_bind fin))
        | exact wpAny_bind fin
  · cases f with
    | next =>
      obtain ⟨σ', H', J', q⟩ := hsp
      exact wpAny_execs_nil ⟨σ', H', J'.ofTry ok, q⟩
    | brk =>
      obtain ⟨σ', H', J', q⟩ := hsp
      exact ⟨σ', H', J'.ofTry ok, q⟩
    | cont =>
      obtain ⟨σ', H', J', q⟩ := hsp
      exact ⟨σ', H', J'.ofTry ok, q⟩
    | ret u =>
      obtain ⟨v, σ', H', J', r, q⟩ := hsp
      exact ⟨v, σ', H', J'.ofTry ok, r, q⟩
end
end Bs
namespace Bs
open PySem L2 TL PySem.Spec PyProof.Rows PySem.SeqAt
/-! ### is True, is not True of a bool -/
section
variable {X : Cx}
def rIsB : R2 := fun x y H Q => ∃ b c : Bool, x = .bl b ∧ y = .bl c ∧ Q (.bl (b == c)) H
def rIsnotB : R2 := fun x y H Q => ∃ b c : Bool, x = .bl b ∧ y = .bl c ∧ Q (.bl (b != c)) H
theorem op_isB : OpR X (compareOp .Is) rIsB := by
  intro pins s σ H x y v u Q I rx ry h
  obtain ⟨b, c, rfl, rfl, q⟩ := h
  cases rx
  cases ry
  exact is_bool ⟨.bl (b == c), H, I, rfl, q⟩
theorem op_isnotB : OpR X (compareOp .IsNot) rIsnotB := by
  intro pins s σ H x y v u Q I rx ry h
  obtain ⟨b, c, rfl, rfl, q⟩ := h
  cases rx
  cases ry
  exact isnot_bool ⟨.bl (b != c), H, I, rfl, q⟩
end
end Bs
namespace Bs
open PySem L2 TL PySem.Spec PyProof.Rows PySem.SeqAt
/-! ### several clauses, each with a name -/
abbrev TSx := Addr → Value → Option Addr → TS
/-- what the clauses wish of an error of the body, one after the other -/
def wManyAs (K : PySem.W.Frag) (Wout : WX) (D : Ends) : List (Value × Nat × TSx) → WX
  | [] => Wout
  | (c, i, ts) :: r => fun cls d σ H => ∃ b, PySem.W.exmOne K cls c = some b ∧ (b = true → ∀ a, H a = none → ts a cls d { nx := fun σ' H' => D.nx (σ'.set i none) H', rt := D.rt, bk := fun σ' H' => D.bk (σ'.set i none) H', ct := fun σ' H' => D.ct (σ'.set i none) H' } (σ.set i (some (.ref a))) H) ∧
      (b = false → wManyAs K Wout D r cls d σ H)
inductive HdsAs (X : Cx) : List ExceptHandler → List (Value × Nat × TSx) → Prop
  | nil : HdsAs X [] []
  | cons {x n : Str} {c : Value} {i : Nat} {ts : TSx} {b₀ : Stmt} {suite : List Stmt} {np pos' : Pos} {hds : List ExceptHandler} {l : List (Value × Nat × TSx)} (hi : X.N[i]? = some n) (hln : X.env.kindOf n = some .local) (hc : Names X x c)
      (hsu : ∀ (a : Addr) (oe : Obj) (cls : Value) (d : Option Addr) (pn : List (Addr × Obj)), L2N.Zn cls d oe → (∃ vs, oe.data = .fields vs) → PSs (X.suite a ((a, oe) :: pn)) (b₀ :: suite) (ts a cls d)) (r : HdsAs X hds l) :
      HdsAs X (.ExceptHandler (some (.Name x np)) (some n) (b₀ :: suite) pos' :: hds) ((c, i, ts) :: l)
section
variable {X : Cx} {body : List Stmt} {h₀ : ExceptHandler} {hds : List ExceptHandler} {l : List (Value × Nat × TSx)} {pos : Pos} {tb : WX → TS} {Wout : WX}
theorem ps_try_manyAs (hs : X.stack = X.env :: X.outer) (hf : X.env.frame = some X.env.locals) (hN : X.N.Nodup) (tk : L2N.Takes X Wout)
    (hb : ∀ (W : WX) (pn : List (Addr × Obj)) (xe : Value → Shared → Prop), L2N.Takes (X.tr pn xe) W → PassesOwn (model X.prog X.w) X.A X.env xe → PSs (X.tr pn xe) body (tb W))
    (hh : HdsAs X (h₀ :: hds) l) : PS X (.Try body (h₀ :: hds) [] [] pos) (fun D σ H => tb (wManyAs X.K Wout D l) D σ H) := by
  refine ⟨fun pins s σ H D I h => ?_⟩
  have ok := I.ok
  have hfr : X.A.frames = some (X.env :: X.outer) := by rw [ok.frames, hs]
  refine wpAny_Try_except ?_
  refine wpAny_mono ((hb (wManyAs X.K Wout D l) (X.pn ++ pins) (fun e s₁ => wpAny (model X.prog X.w) X.A (noteFrame e X.env) (fun _ s₂ => wpAny (model X.prog X.w) X.A (setFlight e none) (fun _ s₃ =>
    wpAny (model X.prog X.w) X.A (handleBy e X.env (h₀ :: hds)) (SP X pins D) X.xe s₃) X.xe s₂) X.xe s₁) (fun u s' xx => ?_) PassesOwn.looking).run [] s σ H D (I.toTry _) h) (fun f s1 hsp => ?_) (fun e s1 he => he)
  · obtain ⟨a, B, sI, pins', σ', H', cls, d, rfl, J', nb, up, sky, na, os, ag, w⟩ := xx
    have J : Inv X pins σ' H' sI := J'.ofTry ok
    have sky' : L2.Sky B (X.env :: X.outer) a (L2N.Zn cls d) X.env.locals s'.heap := by rw [← hs]; exact sky
    show wpAny (model X.prog X.w) X.A (noteFrame (.ref a) X.env) _ _ _
    refine L2N.Sky.land L2N.Zn.steady hfr hf sky' fun h3 fl3 up3 => ?_
    have J3 : Inv X pins σ' H' { s' with heap := h3 } := J.landed nb fl3.1 (up.trans up3) os ag
    obtain ⟨oe3, vs3, he3, hz3, hd3⟩ := fl3.there
    have notFr : ∀ {h : Heap} {o : Obj} {vs : Array Value}, h.FunFrames B (X.env :: X.outer) → h.get? a = some o → o.data = .fields vs → a ∉ frs (X.env :: X.outer) := fun {h o vs} ff e dd hm => by
      obtain ⟨_, o', e', hnf⟩ := ff.mem hm
      rw [e] at e'; cases e'
      exact hnf _ dd
    have nfr := notFr fl3.2.2.1 he3 hd3
    have nL : a ≠ X.env.locals := fun z => nfr (List.mem_filterMap.mpr ⟨X.env, List.mem_cons_self, by rw [hf, z]⟩)
    have nF : a ∉ X.fs := fun hm => by
      obtain ⟨e, he, q⟩ := List.mem_filterMap.mp hm
      exact nfr (List.mem_filterMap.mpr ⟨e, List.mem_cons_of_mem _ he, q⟩)
    have S3 := J3.suite he3 hd3 na nL nF
    have go : ∀ {hds' : List ExceptHandler} {l' : List (Value × Nat × TSx)}, HdsAs X hds' l' → wManyAs X.K Wout D l' cls d σ' H' →
        wpAny (model X.prog X.w) X.A (handleBy (.ref a) X.env hds') (SP X pins D) X.xe { s' with heap := h3 } := by
      intro hds' l' hk
      induction hk with
      | nil =>
        intro w
        refine wpAny_handleBy_nil ?_
        obtain ⟨k1, k2, k3, oe, vs, T, oT, ts', he, hz, hd, h1, hr⟩ := id fl3
        unfold PySem.passOn
        refine wpAny_bind (wpAny_field he hd h1 ?_)
        rw [if_neg (show ¬ ((Value.ref T == Value.none) = true) from by simp)]
        have fin : wpAny (model X.prog X.w) X.A (setFlight (.ref a) X.env.frame) (fun _ s4 => wpAny (model X.prog X.w) X.A (throw (.ref a) : Sem Flow) (SP X pins D) X.xe s4) X.xe { s' with heap := h3 } := by
          rw [hf]
          refine HandSPX.setFlight_upZ fl3 fun h4 hh4 up4 => wpAny_throw (tk _ _ ?_)
          exact ⟨a, B, sI, pins, σ', H', cls, d, rfl, J, nb, (up.trans up3).trans up4, .inr (.inr (by rw [hs]; exact hh4)), na, os, ag, w⟩
        first
          | exact wpAny_bind (wpAny_pure (wpAny_bind fin))
          | exact wpAny_bind fin
      | @cons x n c i ts b₀ suite np pos' hds2 l2 hi hln hc hsu r ih =>
        intro w
        obtain ⟨b, hb1, hyes, hno⟩ := w
        have hloc : Loc X.env.scope n := .inl hln
        refine wpAny_handleBy_cons (codeAny_handlers_test ?_) (by intro q; cases q)
        have LT : PySem.W.Looks (model X.prog X.w) h3 (typeOf (.ref a)) cls := fun A Q E s k q => wpAny_typeOf_ref (k _ _ he3) (by rw [hz3.1]; exact q)
        have LM := PySem.W.exm_one (M := model X.prog X.w) (J3.kIn) LT hb1
        have test : ∀ {Q : Value → Shared → Prop} {E : Value → Shared → Prop}, Q c { s' with heap := h3 } → wpAny (model X.prog X.w) (X.A.mark (some (.ref a))) (eval (.Name x np) X.env) Q E { s' with heap := h3 } := fun {Q E} q => by
          obtain ⟨hg, hdbg, hm | ⟨hm, hv, hnn⟩⟩ := hc
          · exact ld_glob (X := X.suite a ((a, oe3) :: (X.pn ++ pins))) S3 hg hm q hdbg
          · exact ld_blt (X := X.suite a ((a, oe3) :: (X.pn ++ pins))) S3 hg hm hv q hnn hdbg
        refine test (LM.here ?_)
        cases b with
        | true =>
          refine codeAny_handlers_suite_as ?_
          refine HandSPX.lands_againZ fl3 fun h4 fl4 up4 => ?_
          have J4 : Inv X pins σ' H' { s' with heap := h4 } := J.landed nb fl4.1 ((up.trans up3).trans up4) os ag
          obtain ⟨oe4, vs4, he4, hz4, hd4⟩ := fl4.there
          have S4 := J4.suite he4 hd4 na nL nF
          refine store_ok (X := X.suite a ((a, oe4) :: (X.pn ++ pins))) (v := .ref a) S4 hN hi hloc rfl (fun s5 S5 => ?_) (.inr hln)
          refine wpAny_mono ((hsu a oe4 cls d (X.pn ++ pins) hz4 ⟨_, hd4⟩).run [] s5 _ H' _ S5 (hyes rfl a na)) (fun f s6 hsp => ?_) (fun _ _ z => False.elim z)
          have end_ : ∀ {σ6 : L2.St} {H6 : Hp} {Q : Shared → Prop}, Inv (X.suite a ((a, oe4) :: (X.pn ++ pins))) [] σ6 H6 s6 → (∀ s7, Inv X pins (σ6.set i none) H6 s7 → Q s7) →
              wpAny (model X.prog X.w) X.A (do bindName X.env n .none; unbindBehindTheSuite X.env n pos') (fun _ s7 => Q s7) X.xe s6 := fun {σ6 H6 Q} S6 hq => gone_ok (S6.unsuite ok) hN hi hln hq
          cases f with
          | next =>
            obtain ⟨σ6, H6, S6, q6⟩ := hsp
            exact end_ S6 fun s7 J7 => ⟨_, _, J7, q6⟩
          | brk =>
            obtain ⟨σ6, H6, S6, q6⟩ := hsp
            exact end_ S6 fun s7 J7 => ⟨_, _, J7, q6⟩
          | cont =>
            obtain ⟨σ6, H6, S6, q6⟩ := hsp
            exact end_ S6 fun s7 J7 => ⟨_, _, J7, q6⟩
          | ret u =>
            obtain ⟨v6, σ6, H6, S6, r6, q6⟩ := hsp
            exact end_ S6 fun s7 J7 => ⟨_, _, _, J7, r6, q6⟩
        | false =>
          show wpAny _ X.A (handleBy (.ref a) X.env hds2) _ _ _
          exact ih (hno rfl)
    exact go hh w
  · cases f with
    | next =>
      obtain ⟨σ', H', J', q⟩ := hsp
      exact wpAny_execs_nil ⟨σ', H', J'.ofTry ok, q⟩
    | brk =>
      obtain ⟨σ', H', J', q⟩ := hsp
      exact ⟨σ', H', J'.ofTry ok, q⟩
    | cont =>
      obtain ⟨σ', H', J', q⟩ := hsp
      exact ⟨σ', H', J'.ofTry ok, q⟩
    | ret u =>
      obtain ⟨v, σ', H', J', r, q⟩ := hsp
      exact ⟨v, σ', H', J'.ofTry ok, r, q⟩
end
end Bs
namespace GQ2
open PySem PySem.SeqAt
open AutoSeq1 (wpAny_loadPart')
open MeetsSeq MeetsSeq2 MeetsSeq3 SeqRoads2
section
variable {prog : Program} {w : World} {A : Around} {R : Result → Shared → Prop}
/-- == of two tuples whose first items are not equal, or of the empty one with one that is not -/
theorem tuple_eqF (l b : Addr) (its its2 : List Value) (u : Value) (n n2 : Nat) (dd dd2 : Option Addr) (sl sl2 : Array (Option Value)) {s : Shared}
    (h0 : its = [] → R (.ok (.ret (.bool false))) s)
    (h1 : ∀ v r, its = v :: r → wpAny (model prog w) A.in1 (eqBool v u) (fun q s' => q = false ∧ R (.ok (.ret (.bool false))) s') (fun e s' => R (.error e) s') s)
    (hl1 : s.heap.get? l = some { cls := .type "tuple", dict := dd, data := .seq its.toArray n, slots := sl }) (hb1 : s.heap.get? b = some { cls := .type "tuple", dict := dd2, data := .seq (u :: its2).toArray n2, slots := sl2 }) :
    wpAny (model prog w) A.in1 (Builtin.«tuple.__eq__» ⟨[.ref l, .ref b], []⟩) (GQ.FinOf prog w A R) (fun e s' => R (.error e) s') s := by
  have f2 := AutoSeq1.sub_tuple_tuple
  obtain ⟨hp, g, d, tk, os⟩ := s
  wp_walk using wpAny_loadPart' hl1, wpAny_loadPart' hb1, wpAny_forIn_list _ (fun rest b s' => b.1 = none ∧ rest = its.zip (u :: its2) ∧ s' = ⟨hp, g, d, tk, os⟩) _
  case turn =>
    rintro ⟨y, x⟩ rest b s' ⟨hb', hz, rfl⟩
    cases its with
    | nil => cases hz
    | cons v r =>
      rw [List.zip_cons_cons] at hz
      injection hz with hyx hrest
      injection hyx with e1 e2
      subst e1 e2
      refine wpAny_bind (wpAny_mono (h1 _ _ rfl) (fun q s2 q2 => ?_) fun _ _ x => x)
      obtain ⟨hr, q2⟩ := q2
      subst hr
      wp_walk
      exact q2
  case fin =>
    rintro ⟨b1, b2⟩ s' ⟨hb', hz, rfl⟩
    simp only at hb'
    subst hb'
    cases its with
    | nil =>
      have := h0 rfl
      wp_walk
      simpa [Builtin.Tuple.tupleCompareSizes] using this
    | cons v r => cases hz
  case h =>
    exact ⟨rfl, by simp, rfl⟩
end
end GQ2
namespace Bs
open PySem L2 TL PySem.Spec PyProof.Rows PySem.SeqAt
section
variable {X : Cx} {CX : CXT} {k : Nat} {f C : Addr} {fd : FuncData} {ps : List Str} {sp : Sp}
/-- a tuple of own objects against a tuple that begins with a text: not equal -/
def rEqTF (K : PySem.W.Frag) (C : Addr) (sp : Sp) : R2 := fun x y H Q => ∃ (a b : Addr) (xs : List V) (w : Str) (ys : List V), x = .ref a ∧ y = .ref b ∧ SqT K H a xs ∧ SqT K H b (.str w :: ys) ∧
  ((xs = [] ∧ Q (.bl false) H) ∨ ∃ c dx fs r, xs = .ref c :: r ∧ H c = some (.ins C dx fs) ∧ sp [.ref c, .str w] H (fun v H' => v = .bl false ∧ Q (.bl false) H') (fun _ _ _ => False))
theorem op_eqTF (S : DunC X.K C "__eq__" f) (F : FnOk X.prog X.w X.K X.mg X.base CX k f fd ps sp) (hr : Room (k + 1) X.A) (hb : Binds X.K fd ps []) (hx : Passes CX X (fun _ _ _ => False)) (hstr : PySem.W.subIn X.K (.type "str") (.ref C) = some false) : OpR X (compareOp .Eq) (rEqTF X.K C sp) := by
  intro pins s σ H x y v u Q I rx ry h
  obtain ⟨a, b, xs, w, ys, rfl, rfl, ha, hb', hq⟩ := h
  cases rx
  cases ry
  obtain ⟨its, r, e, z⟩ := I.tuple ha
  obtain ⟨its2, r2, e2, z2⟩ := I.tuple hb'
  obtain ⟨⟨cls, dd, data, sl⟩, ho, hc, n, hd⟩ := id e
  obtain ⟨⟨cls2, dd2, data2, sl2⟩, ho2, hc2, n2, hd2⟩ := id e2
  simp only at hc hd hc2 hd2
  subst hc hd hc2 hd2
  cases r2 with
  | cons rw_ rr =>
    rename_i u2 its2'
    obtain ⟨tw, rfl⟩ := rw_
    show wpAny (model X.prog X.w) X.A (richCompare .Eq (.ref a) (.ref b)) (EP X pins σ Q) X.xe s
    refine wpAny_richCompare_same_room (op := .Eq) ⟨_, ho, rfl⟩ ⟨_, ho2, rfl⟩ PySem.F.slot_tuple_eq (GQ.call_here PySem.F.slot_tuple_eq ⟨_, ho, rfl⟩ PySem.F.entry_tuple_eq (PySem.F.args_tuple_eq_2 _ _) ?_) hr.units0
    refine GQ2.tuple_eqF (R := wants (fun v s' => v ≠ .notImplemented ∧ EP X pins σ Q v s') X.xe) a b its its2' _ n n2 dd dd2 sl sl2 (fun hi => ?_) (fun v rr hi => ?_) ho ho2
    · subst hi
      cases r
      rcases hq with ⟨_, q⟩ | ⟨_, _, _, _, hxs, _⟩
      · exact ⟨(fun x => nomatch x), .bl false, H, I, rfl, q⟩
      · cases hxs
    · subst hi
      rcases hq with ⟨hxs, _⟩ | ⟨c, dx, fs, r', hxs, hc, q⟩
      · subst hxs
        cases r
      · subst hxs
        cases r with
        | cons rv rr' =>
          cases rv
          obtain ⟨mA, J, _⟩ := ins_get I.hok hc
          obtain ⟨od, J, _⟩ := J.look
          obtain ⟨m, hF⟩ := I.fr
          have sb : Sub X k X.A.in1 := ⟨hr.in1, rfl⟩
          unfold eqBool
          refine wpAny_holding ?_
          refine wpAny_ite_split (fun hab => absurd (eq_of_beq hab) (by intro z; cases z)) (fun _ => ?_)
          refine wpAny_bind ?_
          have hl := F.len _ _ _ _ q
          have e0 : Env0 X.prog X.w X.K X.mg X.base X.A.in1 X.stack s H := by
            have e := I.env0
            exact ⟨by rw [sb.fr]; exact e.frames, e.mod, e.bs, e.bsz, e.funs, e.frf, e.hok, e.bare⟩
          have rv2 : Vals [V.ref c, V.str w] [Value.ref c, Value.str w tw] := .cons rfl (.cons ⟨tw, rfl⟩ .nil)
          have hB : PySem.W.Looks (model X.prog X.w) s.heap (typeOf (.str w tw)) (.type "str") := PySem.W.Looks.of_pure rfl
          refine PySem.W.cmp_K (op := .Eq) (tb := .type "str") sb.room.units0 hF I.ok.mod.kin J hB (by rw [PySem.W.notFirst, hstr]; rfl) S.at_ S.fn ?_
          refine wpAny_call (codeAny_mono (F.run X.A.in1 X.stack s H ⟨[.ref c, .str w tw], []⟩ [.ref c, .str w tw] [.ref c, .str w] _ _ sb.room e0 (by
            have := hb s [.ref c, .str w tw] I.kIn (by simpa using hl)
            simpa using this) rv2 q) fun r s' hq => ?_)
          cases r with
          | error e => exact (hx pins σ H s e s' I hq)
          | ok fl =>
            cases fl with
            | ret w2 =>
              obtain ⟨z, H', I', rz, ez, ex⟩ := I.after hq
              subst ez
              cases rz
              exact wpAny_truthy_bool ⟨rfl, (fun x => nomatch x), .bl false, H', I', rfl, ex⟩
            | next => exact False.elim hq
            | brk => exact False.elim hq
            | cont => exact False.elim hq
/-- one of two readings -/
def rOr (r r' : R2) : R2 := fun x y H Q => r x y H Q ∨ r' x y H Q
theorem op_or {op : Value → Value → Sem Value} {r r' : R2} (h : OpR X op r) (h' : OpR X op r') : OpR X op (rOr r r') := by
  intro pins s σ H x y v u Q I rx ry hq
  rcases hq with hq | hq
  · exact h pins s σ H x y v u Q I rx ry hq
  · exact h' pins s σ H x y v u Q I rx ry hq
end
end Bs
namespace Bs
open PySem L2 TL PySem.Spec PyProof.Rows PySem.SeqAt
/-- isinstance(text, C) -/
theorem call_isStr {X : Cx} {C : Addr} (h : PySem.W.kitOne X.K (.type "str") (.ref C) = some false) : CallR X (.builtin "isinstance") (fun xs H Q => ∃ w : Str, xs = [.str w, .ref C] ∧ Q (.bl false) H) := by
  intro pins s σ H xs us Q I r hq
  obtain ⟨w, rfl, q⟩ := hq
  obtain ⟨u, w', rfl, ru, rw'⟩ := vals2 r
  cases rw'
  exact isinst_ok I ru (.str w) h fun tk => ⟨.bl false, H, I.tok _, rfl, q⟩
end Bs
namespace K60
open PySem L2 TL Bs NdefX
local macro_rules | `(tactic| walk_at "wp") => `(tactic| simp only [tSeq, tAsg, gName, gTup, gCons, gNil, tVar, tC, tOp, tUn, rI, rI0, rU, tCB, tCons, tNil, tIfS, tRet, tRetN, tNext, tNever, test_eq, tB, tTup, tLst, tCall, tIf, tAndV, tOrV, tNotV, tNot, tAnd, tOr, rEq, rNe, scal_ii, scal_ss, scal_bb, dec_ii, dec_ss, dec_bb, for_eq, lc_eq, while_eq, tDrop, tYes, iList, iTup, iStr, iRng1, iRng2, RZ.iZipA, L2.start, rIxL, rIxT, rIxS, rSlS, cxK, tSl, tPart, tNoPart, tBM, tBM0, rAppend, rExtend, rRepS, rGcd, gSub, rSetL, tAug, ipI, rAdd, rSub, tM1, tM0,
  List.map_cons, List.map_nil, List.length_cons, List.length_nil, List.cons_append, List.nil_append, List.append_nil, List.getElem?_cons_succ, List.getElem?_cons_zero, List.set_cons_succ, List.set_cons_zero, Nat.reduceAdd, Nat.reduceSub, List.replicate_succ, List.replicate_zero, wipe,
  Option.some.injEq, V.int.injEq, V.str.injEq, sgn_eq, V.ref.injEq, V.bl.injEq, exists_eq_left, exists_eq_left', exists_and_left, exists_eq_right, List.cons.injEq, and_true, true_and, ex_bl, ex_int, exists_const, Nat.zero_add, Int.toNat_natCast, Int.zero_add, and_assoc, reduceCtorEq, false_and, and_false, exists_false, or_false, false_or, eq_self, decide_true, decide_false, ite_true, ite_false, if_true, if_false, Bool.false_eq_true, Bool.not_true, Bool.not_false, ↓reduceIte])
def top (i : Nat) : Stmt := PySem.Challenge.pw_loopworks_k60_limits_of_steps.main.body.getD i (.Pass ⟨0, 0, 0, 0⟩)
def clsBody : Stmt → List Stmt
  | .ClassDef _ _ _ b _ _ _ _ _ _ _ => b
  | _ => []
def mth (i j : Nat) : Stmt := (clsBody (top i)).getD j (.Pass ⟨0, 0, 0, 0⟩)
abbrev PRG : Program := PySem.Challenge.pw_loopworks_k60_limits_of_steps
abbrev P : Program := PRG
abbrev s_init : Stmt := (clsBody (top 7)).getD 0 (.Pass ⟨0, 0, 0, 0⟩)
def nf (cc c : Addr) : NF := ⟨"__init__", "StepFails.__init__", defArgs s_init, defBody s_init, defScope s_init, [(("__class__" : Str), cc)], c⟩
/-- the class StepFails, all that is needed of it -/
structure TF (P : Program) (K : PySem.W.Frag) (mg : Str → Option Value) (C f cc c : Addr) (fd : FuncData) : Prop where
  g : mg "StepFails" = some (.ref C)
  g0 : PySem.W.nsIn K mainGlobals "StepFails" = some (some (.ref C))
  S : SupC P K mg (nf cc c) f cc C "self"
  T : OexC K C
  cd : PySem.W.codeIn K (.ref c) "StepFails.__init__" = true
  fd_ : ∃ (oc : Value) (od : Option Addr) (osl : Array (Option Value)) (doc pm ctv : Value), fd = (nf cc c).fd doc pm ctv ∧ K.lookup f = some (⟨oc, od, .func ((nf cc c).fd doc pm ctv), osl⟩ : Obj)
  iC : PySem.W.findIn K (.ref C) "__init__" = some (some (.ref f))
  tI : PySem.W.typeIn K (.ref f) = some (.type "function")
  n1 : PySem.W.findIn K (.ref C) "index" = some none
  bd : Binds K fd ["self", "index"] []
theorem tf_mk {K : PySem.W.Frag} {h : Heap} {mg : Str → Option Value} (X : K.In h) (G : h.Ns mainGlobals mg)
    {C f cc c : Addr} {oc doc pm ctv ccl cl : Value} {od cdd cld : Option Addr} {osl ccs csl : Array (Option Value)} {vs : Array Value} {file : Str} {tf : Tok} {cd : ClassData}
    {nm q : Str} {N : Addr} {bs bm : List Value} {sn : List Str} {sub : List Value} {ab : Bool} {col : Option Bool} {dd : Option Addr} {k0 k1 k2 k3 k5 : Option Value}
    (a1 : PySem.W.nsIn K mainGlobals "StepFails" = some (some (.ref C))) (a2 : PySem.W.findIn K (.ref C) "__init__" = some (some (.ref f)))
    (a3 : K.lookup f = some (⟨oc, od, .func ((nf cc c).fd doc pm ctv), osl⟩ : Obj)) (a4 : K.lookup c = some (⟨ccl, cdd, .fields vs, ccs⟩ : Obj)) (a5 : vs[2]? = some (.str file tf))
    (a6 : (((PySem.Challenge.pw_loopworks_k60_limits_of_steps).main.file : Str) == file) = true) (a7 : K.lookup cc = some (⟨cl, cld, .cell (some (.ref C)), csl⟩ : Obj))
    (a8 : PySem.W.clsIn K C = some cd) (a9 : PySem.W.mroIn K C (.ref C) = some true) (b1 : PySem.W.nsIn K mainGlobals "super" = some none) (b2 : PySem.W.nsIn K PySem.cStatics "thirdparty.any" = some none)
    (b3 : PySem.W.ks_superIn K C C "__init__" = some (some (.builtin "ValueError.__init__"))) (b4 : PySem.W.subIn K (.ref C) (.type "ValueError") = some true)
    (b5 : K.lookup C = some (excClassObj nm q C N bs bm true sn sub ab col dd k0 k1 k2 k3 k5 "ValueError.__new__")) (b6 : PySem.HandSPX.refsVE bm = true)
    (b7 : PySem.W.findIn K (.ref C) "__setattr__" = some (some (.builtin "object.__setattr__"))) (b8 : PySem.W.subIn K (.ref C) (.type "BaseException") = some true) (b9 : PySem.W.typeIn K (.ref C) = some (.type "type")) (c1 : PySem.W.keepIn K (.ref C) = true)
    (c2 : PySem.W.codeIn K (.ref c) "StepFails.__init__" = true) (c3 : PySem.W.typeIn K (.ref f) = some (.type "function")) (c4 : PySem.W.findIn K (.ref C) "index" = some none) :
    TF PySem.Challenge.pw_loopworks_k60_limits_of_steps K mg C f cc c ((nf cc c).fd doc pm ctv) :=
by
  refine ⟨PySem.W.mg_of X G a1, a1, ⟨⟨_, _, _, _, _, _, a3⟩, ⟨_, rfl, rfl⟩, ⟨_, _, _, _, _, _, a4, a5, a6⟩, rfl, ⟨_, _, _, a7⟩, ⟨_, a8⟩, a9, PySem.W.mg_none_of X G b1, (show List.lookup ("super" : Str) (defScope s_init).names = some .globalImplicit by decide +kernel), (show List.lookup ("__class__" : Str) (defScope s_init).names = some .free by decide +kernel), (show List.lookup ("self" : Str) (defScope s_init).names = some .local by decide +kernel), by decide +kernel, b2, b3, b4⟩,
    ⟨⟨_, _, _, _, _, _, _, _, _, _, _, _, _, _, _, b5, b6⟩, b7, b8, b9, c1⟩, c2, ⟨_, _, _, _, _, _, rfl, a3⟩, a2, c3, c4, ?_⟩
  exact .all fun us hl => match us, hl with
    | [_, _], _ => rfl
/-- .. and of what is asked of it in a suite -/
structure TX (K : PySem.W.Frag) (mg : Str → Option Value) (C f cc c : Addr) (fd : FuncData) : Prop where
  tf : TF PRG K mg C f cc c fd
  xx : XfC K C
  em : PySem.W.exmOne K (.ref C) (.ref C) = some true
theorem tx_mk {K : PySem.W.Frag} {mg : Str → Option Value} {C f cc c : Addr} {fd : FuncData} (tf : TF PRG K mg C f cc c fd)
    (f9 : PySem.W.subIn K (.ref C) (.ref C) = some true)
    (d7 : PySem.W.findIn K (.ref C) "__getattribute__" = some (some (.builtin "BaseException.__getattribute__"))) (d8 : PySem.W.findIn K (.ref C) "__getattr__" = some none) (d9 : PySem.W.subIn K (.ref C) (.type "BaseException") = some true)
    (e1 : PySem.W.hasDictIn K C = true) : TX K mg C f cc c fd :=
  ⟨tf, ⟨d7, d8, d9, e1⟩, PySem.W.exm_ref d9 e1 tf.T.tyC f9⟩
/-- an error told with its number: what __init__ leaves -/
def sp_init (C : Addr) : Sp := fun vs H Q _ => ∃ (a : Addr) (l : Nat), vs = [.ref a, .int (l : Int)] ∧ H a = some (exo a C none) ∧ l < 1000000000 ∧
  ∀ H' d, d ≠ a → H d = none → H' a = some (exo a C (some d)) → H' d = some (exd d [("index", .int (l : Int))]) → (∀ b, b ≠ a → b ≠ d → H' b = H b) → Q .non H'
theorem ok_init {P : Program} {w : World} {K : PySem.W.Frag} {mg : Str → Option Value} {base : Heap} {C f cc c : Addr} {fd : FuncData} (T : TF P K mg C f cc c fd) : FnOk P w K mg base CX0 1 f fd ["self", "index"] (sp_init C) := by
  refine' fn_super (N := ["self", "index", "__class__"]) (F := nf cc c) T.S T.T T.cd (nscope_by (show nscB ["self", "index", "__class__"] ["self", "index"] ["__class__"] (defScope s_init) = true by decide +kernel)) T.fd_ rfl ?hb ?len ?he ?hpl ?hc ?hi ?hsw ?hrun
  (case hb => exact rfl)
  (case he => exact fun _ => rfl)
  (case hpl => exact fun _ => rfl)
  (case hc => exact fun _ => rfl)
  (case hi => exact fun _ => rfl)
  (case hsw => exact fun _ => rfl)
  · rintro vs H Q E ⟨a, l, rfl, _⟩
    rfl
  · rintro A outer s H vs Q E hr ⟨a, l, rfl, ea, hl, q⟩
    refine ⟨_, _, a, pa_cons (pe_joined (.cons pe_str (.cons (pe_fmt (pv 1)) (.cons pe_str .nil)))) pa_nil, pss_one (ps_ost (pv 0) (pv 1)), rfl, ea, ?_⟩
    show tCons _ tNil [some (V.ref a), some (V.int (l : Int)), some (V.ref C)] H _
    rw [show startF ["self", "index", "__class__"] [V.ref a, V.int (l : Int)] [some (V.ref C)] = [some (V.ref a), some (V.int (l : Int)), some (V.ref C)] from rfl]
    simp only [tCons, tNil, tJs, tFmt, tC, tVar, tSeq, tOst, List.getElem?_cons_succ, List.getElem?_cons_zero, Option.some.injEq, exists_eq_left', V.str.injEq, V.int.injEq, reduceCtorEq, false_and, exists_false, false_or, or_false, exists_eq_left, List.length_cons, List.length_nil]
    have e1 : (Str.ofString "step ").length = 5 := by decide +kernel
    have e2 : (Str.ofString " cannot be taken").length = 16 := by decide +kernel
    have e0 : Str.empty.length = 0 := rfl
    have n1 : (Str.ofString (toString (l : Int))).length ≤ 9 := by rw [len_tl, tl_num]; exact numL_len (by decide) hl
    have g1 : ∀ n : Nat, n < 1000000000 → ((n : Nat) : Int).natAbs.log2 < 1920 := fun n h => Nat.lt_of_le_of_lt (log2_le_of (a := 34) (by rw [Int.natAbs_natCast]; exact Nat.lt_trans h (by decide))) (by decide)
    have big : ∀ n : Nat, n ≤ 2000 → n ≤ sizeLine := fun n h => Nat.le_trans h (by decide)
    simp only [len_app, e1, e2, e0]
    refine ⟨by decide, g1 l hl, big _ (by omega), big _ (by omega), by decide, ea, a, C, rfl, T.T, T.n1, .inl ⟨ea, fun d hd hda => ?_⟩⟩
    have h1a : upd (upd H d (exd d [("index", V.int (l : Int))])) a (exo a C (some d)) a = some (exo a C (some d)) := upd_same
    have h1d : upd (upd H d (exd d [("index", V.int (l : Int))])) a (exo a C (some d)) d = some (exd d [("index", V.int (l : Int))]) := by rw [upd_ne hda]; exact upd_same
    exact q _ d hda hd h1a h1d fun b hb hbd => by rw [upd_ne hb, upd_ne hbd]
/-- an error without a constructor of its own -/
structure TE1 (K : PySem.W.Frag) (mg : Str → Option Value) (nm : Str) (C : Addr) (bm : List Value) (nw : String) : Prop where
  g : mg nm = some (.ref C)
  q : PySem.W.excIn K C bm nw = true
  kp : PySem.W.keepIn K (.ref C) = true
  r1 : PySem.W.subIn K (.ref C) (.type "BaseException") = some true
  r2 : PySem.W.typeIn K (.ref C) = some (.type "type")
  dd : PySem.W.hasDictIn K C = true
theorem te_mk {K : PySem.W.Frag} {h : Heap} {mg : Str → Option Value} {nm : Str} {C : Addr} {bm : List Value} {nw : String} (X : K.In h) (G : h.Ns mainGlobals mg)
    (a1 : PySem.W.nsIn K mainGlobals nm = some (some (.ref C))) (q : PySem.W.excIn K C bm nw = true) (a3 : PySem.W.keepIn K (.ref C) = true) (r1 : PySem.W.subIn K (.ref C) (.type "BaseException") = some true) (r2 : PySem.W.typeIn K (.ref C) = some (.type "type")) (d10 : PySem.W.hasDictIn K C = true) : TE1 K mg nm C bm nw :=
  ⟨PySem.W.mg_of X G a1, q, a3, r1, r2, d10⟩
abbrev BMV : List Value := [Value.type "ValueError", Value.type "Exception", Value.type "BaseException", Value.type "object"]
/-- one clause, two classes: which of the two errors it takes -/
theorem exm_two {K : PySem.W.Frag} {cls c1 c2 : Value} {a b : Bool} (h1 : PySem.W.exmOne K cls c1 = some a) (h2 : PySem.W.exmOne K cls c2 = some b) : PySem.W.exmAny K cls [c1, c2] = some (a || b) := by
  have e : PySem.W.exmAny K cls [c2] = some b := by
    unfold PySem.W.exmAny
    rw [h2]
    show some (b || false) = some b
    rw [Bool.or_false]
  unfold PySem.W.exmAny
  rw [h1, e]
theorem kit_ref {K : PySem.W.Frag} {t : Value} {C : Addr} {b : Bool} {cd : ClassData} (h1 : (t == Value.ref C) = false) (h2 : PySem.W.clsIn K C = some cd) (h3 : PySem.W.typeIn K (.ref C) = some (.type "type")) (h4 : PySem.W.subIn K t (.ref C) = some b) : PySem.W.kitOne K t (.ref C) = some b := by
  unfold PySem.W.kitOne
  rw [h1, if_neg (by decide)]
  show (if ((PySem.W.clsIn K C).isSome && PySem.W.typeIn K (.ref C) == some (.type "type")) = true then PySem.W.subIn K t (.ref C) else none) = some b
  rw [h2, h3, if_pos (show ((some cd).isSome && some (Value.type "type") == some (Value.type "type")) = true from (show (true && some (Value.type "type") == some (Value.type "type")) = true by decide)), h4]
/-- all errors of the steps -/
structure TA0 (K : PySem.W.Frag) (mg : Str → Option Value) (C f cc c : Addr) (fd : FuncData) (M G W S : Addr) : Prop where
  tf : TF PRG K mg C f cc c fd
  tm : TE1 K mg "TooMany" M BMV "ValueError.__new__"
  tg : TE1 K mg "TooGreat" G BMV "ValueError.__new__"
  gW : mg "WorkError" = some (.ref W)
  eM : ExcC K M
  eG : ExcC K G
  m1 : PySem.W.kitOne K (.ref M) (.ref W) = some true
  m2 : PySem.W.kitOne K (.ref M) (.ref G) = some false
  g1 : PySem.W.kitOne K (.ref G) (.ref W) = some true
  g2 : PySem.W.kitOne K (.ref G) (.ref M) = some false
  x1 : PySem.W.exmOne K (.ref M) (.ref M) = some true
  x2 : PySem.W.exmOne K (.ref G) (.ref M) = some false
  x3 : PySem.W.exmOne K (.ref G) (.ref G) = some true
  gS : mg "System" = some (.ref S)
  kS : PySem.W.kitOne K (.type "str") (.ref S) = some false
  sS : PySem.W.subIn K (.type "str") (.ref S) = some false
theorem exc_mk {K : PySem.W.Frag} {C : Addr} (r1 : PySem.W.subIn K (.ref C) (.type "BaseException") = some true) (d10 : PySem.W.hasDictIn K C = true) (d7 : PySem.W.findIn K (.ref C) "__getattribute__" = some (some (.builtin "BaseException.__getattribute__"))) (d8 : PySem.W.findIn K (.ref C) "__getattr__" = some none) (e2 : PySem.W.findIn K (.ref C) "__class__" = some (some (.builtin "object.__class__"))) (e3 : PySem.W.specialIn K (.builtin "object.__class__") "__get__" = some (some (.builtin "getset_descriptor.__get__")))
    (e4 : PySem.W.takesIn K (.builtin "object.__class__") = some true) (e5 : PySem.W.mroIn K C (.type "object") = some true) : ExcC K C := ⟨d7, d8, r1, d10, e2, e3, e4, e5⟩
theorem ta_mk {K : PySem.W.Frag} {h : Heap} {mg : Str → Option Value} {C f cc c : Addr} {fd : FuncData} {M G W S : Addr} {cW cM cG cS : ClassData} (X : K.In h) (NS_ : h.Ns mainGlobals mg) (tf : TF PRG K mg C f cc c fd) (tm : TE1 K mg "TooMany" M BMV "ValueError.__new__") (tg : TE1 K mg "TooGreat" G BMV "ValueError.__new__") (eM : ExcC K M) (eG : ExcC K G)
    (w1 : PySem.W.nsIn K mainGlobals "WorkError" = some (some (.ref W))) (w2 : PySem.W.clsIn K W = some cW) (w3 : PySem.W.typeIn K (.ref W) = some (.type "type")) (w4 : (Value.ref M == Value.ref W) = false) (w5 : (Value.ref G == Value.ref W) = false) (w6 : PySem.W.subIn K (.ref M) (.ref W) = some true) (w7 : PySem.W.subIn K (.ref G) (.ref W) = some true)
    (s1 : PySem.W.clsIn K M = some cM) (s2 : PySem.W.clsIn K G = some cG) (s3 : (Value.ref M == Value.ref G) = false) (s4 : (Value.ref G == Value.ref M) = false) (s5 : PySem.W.subIn K (.ref M) (.ref M) = some true) (s6 : PySem.W.subIn K (.ref M) (.ref G) = some false) (s7 : PySem.W.subIn K (.ref G) (.ref M) = some false) (s8 : PySem.W.subIn K (.ref G) (.ref G) = some true)
    (y1 : PySem.W.nsIn K mainGlobals "System" = some (some (.ref S))) (y2 : PySem.W.clsIn K S = some cS) (y3 : PySem.W.typeIn K (.ref S) = some (.type "type")) (y4 : PySem.W.subIn K (.type "str") (.ref S) = some false) : TA0 K mg C f cc c fd M G W S :=
  ⟨tf, tm, tg, PySem.W.mg_of X NS_ w1, eM, eG, kit_ref w4 w2 w3 w6, kit_ref s3 s2 tg.r2 s6, kit_ref w5 w2 w3 w7, kit_ref s4 s1 tm.r2 s7, PySem.W.exm_ref tm.r1 tm.dd tm.r2 s5, PySem.W.exm_ref tm.r1 tm.dd tm.r2 s7, PySem.W.exm_ref tg.r1 tg.dd tg.r2 s8, PySem.W.mg_of X NS_ y1, kit_ref rfl y2 y3 y4, y4⟩
abbrev s_is_integer : Stmt := top 18
theorem sc_is_integer : FnScope ["value"] ["value"] (defScope s_is_integer) := ⟨rfl, rfl, rfl, by decide +kernel, rfl, by decide +kernel, by decide +kernel⟩
abbrev s_is_tuple_of_integers : Stmt := top 19
theorem sc_is_tuple_of_integers : FnScope ["value", "count", "number"] ["value", "count"] (defScope s_is_tuple_of_integers) := ⟨rfl, rfl, rfl, by decide +kernel, rfl, by decide +kernel, by decide +kernel⟩
abbrev s_is_constraint : Stmt := top 20
theorem sc_is_constraint : FnScope ["row", "variables"] ["row", "variables"] (defScope s_is_constraint) := ⟨rfl, rfl, rfl, by decide +kernel, rfl, by decide +kernel, by decide +kernel⟩
abbrev s_impossible : Stmt := top 21
theorem sc_impossible : FnScope ["variables"] ["variables"] (defScope s_impossible) := ⟨rfl, rfl, rfl, by decide +kernel, rfl, by decide +kernel, by decide +kernel⟩
abbrev s_common_divisor : Stmt := top 26
theorem sc_common_divisor : FnScope ["first", "numbers", "found", "number"] ["first", "numbers"] (defScope s_common_divisor) := ⟨rfl, rfl, rfl, by decide +kernel, rfl, by decide +kernel, by decide +kernel⟩
abbrev s_divided : Stmt := top 27
theorem sc_divided : FnScope ["expression", "divisor", "number"] ["expression", "divisor"] (defScope s_divided) := ⟨rfl, rfl, rfl, by decide +kernel, rfl, by decide +kernel, by decide +kernel⟩
abbrev s_reduced_inequality : Stmt := top 23
theorem sc_reduced_inequality : FnScope ["divisor", "expression"] ["divisor", "expression"] (defScope s_reduced_inequality) := ⟨rfl, rfl, rfl, by decide +kernel, rfl, by decide +kernel, by decide +kernel⟩
abbrev s_reduced_equation : Stmt := top 24
theorem sc_reduced_equation : FnScope ["divisor", "expression", "numbers", "leading", "number"] ["divisor", "expression"] (defScope s_reduced_equation) := ⟨rfl, rfl, rfl, by decide +kernel, rfl, by decide +kernel, by decide +kernel⟩
abbrev s_reduced_multiple : Stmt := top 25
theorem sc_reduced_multiple : FnScope ["m", "expression", "numbers", "number", "divisor"] ["m", "expression"] (defScope s_reduced_multiple) := ⟨rfl, rfl, rfl, by decide +kernel, rfl, by decide +kernel, by decide +kernel⟩
abbrev s_reduced_constraint : Stmt := top 22
theorem sc_reduced_constraint : FnScope ["constraint", "expression", "divisor"] ["constraint"] (defScope s_reduced_constraint) := ⟨rfl, rfl, rfl, by decide +kernel, rfl, by decide +kernel, by decide +kernel⟩
abbrev s_reduced_rows : Stmt := top 28
theorem sc_reduced_rows : FnScope ["variables", "rows", "found", "places", "row", "reduced", "key", "place"] ["variables", "rows"] (defScope s_reduced_rows) := ⟨rfl, rfl, rfl, by decide +kernel, rfl, by decide +kernel, by decide +kernel⟩
abbrev s_System___init__ : Stmt := mth 17 0
theorem sc_System___init__ : FnScope ["self", "variables", "rows", "row"] ["self", "variables", "rows"] (defScope s_System___init__) := ⟨rfl, rfl, rfl, by decide +kernel, rfl, by decide +kernel, by decide +kernel⟩
abbrev s_System_is_impossible : Stmt := mth 17 6
theorem sc_System_is_impossible : FnScope ["self"] ["self"] (defScope s_System_is_impossible) := ⟨rfl, rfl, rfl, by decide +kernel, rfl, by decide +kernel, by decide +kernel⟩
abbrev s_System_reduced : Stmt := mth 17 7
theorem sc_System_reduced : FnScope ["self"] ["self"] (defScope s_System_reduced) := ⟨rfl, rfl, rfl, by decide +kernel, rfl, by decide +kernel, by decide +kernel⟩
abbrev s_System___add__ : Stmt := mth 17 4
theorem sc_System___add__ : FnScope ["self", "other"] ["self", "other"] (defScope s_System___add__) := ⟨rfl, rfl, rfl, by decide +kernel, rfl, by decide +kernel, by decide +kernel⟩
abbrev s_System___eq__ : Stmt := mth 17 1
theorem sc_System___eq__ : FnScope ["self", "other"] ["self", "other"] (defScope s_System___eq__) := ⟨rfl, rfl, rfl, by decide +kernel, rfl, by decide +kernel, by decide +kernel⟩
abbrev s_System_weight : Stmt := mth 17 5
theorem sc_System_weight : FnScope ["self"] ["self"] (defScope s_System_weight) := ⟨rfl, rfl, rfl, by decide +kernel, rfl, by decide +kernel, by decide +kernel⟩
abbrev s_add : Stmt := top 12
theorem sc_add : FnScope ["one", "other", "a", "b"] ["one", "other"] (defScope s_add) := ⟨rfl, rfl, rfl, by decide +kernel, rfl, by decide +kernel, by decide +kernel⟩
abbrev s_multiply : Stmt := top 13
theorem sc_multiply : FnScope ["factor", "expression", "number"] ["factor", "expression"] (defScope s_multiply) := ⟨rfl, rfl, rfl, by decide +kernel, rfl, by decide +kernel, by decide +kernel⟩
abbrev s_difference : Stmt := top 14
theorem sc_difference : FnScope ["one", "other", "a", "b"] ["one", "other"] (defScope s_difference) := ⟨rfl, rfl, rfl, by decide +kernel, rfl, by decide +kernel, by decide +kernel⟩
abbrev s_with_constant_added : Stmt := top 15
theorem sc_with_constant_added : FnScope ["expression", "number"] ["expression", "number"] (defScope s_with_constant_added) := ⟨rfl, rfl, rfl, by decide +kernel, rfl, by decide +kernel, by decide +kernel⟩
abbrev s_without : Stmt := top 31
theorem sc_without : FnScope ["expression", "k"] ["expression", "k"] (defScope s_without) := ⟨rfl, rfl, rfl, by decide +kernel, rfl, by decide +kernel, by decide +kernel⟩
abbrev s_changed : Stmt := top 32
theorem sc_changed : FnScope ["row", "expression"] ["row", "expression"] (defScope s_changed) := ⟨rfl, rfl, rfl, by decide +kernel, rfl, by decide +kernel, by decide +kernel⟩
abbrev s_common_multiple : Stmt := top 33
theorem sc_common_multiple : FnScope ["numbers", "found", "number"] ["numbers"] (defScope s_common_multiple) := ⟨rfl, rfl, rfl, by decide +kernel, rfl, by decide +kernel, by decide +kernel⟩
abbrev s_Elimination_rule_for : Stmt := mth 30 1
theorem sc_Elimination_rule_for : FnScope ["self", "has_equations", "has_divisors", "a", "expression", "b"] ["self", "has_equations", "has_divisors"] (defScope s_Elimination_rule_for) := ⟨rfl, rfl, rfl, by decide +kernel, rfl, by decide +kernel, by decide +kernel⟩
abbrev s_Elimination_pivots_for : Stmt := mth 30 2
theorem sc_Elimination_pivots_for : FnScope ["self", "equations", "bounds", "bound"] ["self", "equations"] (defScope s_Elimination_pivots_for) := ⟨rfl, rfl, rfl, by decide +kernel, rfl, by decide +kernel, by decide +kernel⟩
abbrev s_Elimination___init__ : Stmt := mth 30 0
theorem sc_Elimination___init__ : FnScope ["self", "system", "k", "having", "row", "equations", "divisors"] ["self", "system", "k"] (defScope s_Elimination___init__) := ⟨rfl, rfl, rfl, by decide +kernel, rfl, by decide +kernel, by decide +kernel⟩
abbrev s_Elimination_count_cases : Stmt := mth 30 3
theorem sc_Elimination_count_cases : FnScope ["self", "_", "many"] ["self"] (defScope s_Elimination_count_cases) := ⟨rfl, rfl, rfl, by decide +kernel, rfl, by decide +kernel, by decide +kernel⟩
abbrev s_Elimination_count_joined : Stmt := mth 30 4
theorem sc_Elimination_count_joined : FnScope ["self"] ["self"] (defScope s_Elimination_count_joined) := ⟨rfl, rfl, rfl, by decide +kernel, rfl, by decide +kernel, by decide +kernel⟩
abbrev s_Elimination_joined_rows : Stmt := mth 30 6
theorem sc_Elimination_joined_rows : FnScope ["self", "rows", "row", "lower", "upper", "joined"] ["self"] (defScope s_Elimination_joined_rows) := ⟨rfl, rfl, rfl, by decide +kernel, rfl, by decide +kernel, by decide +kernel⟩
abbrev s_Elimination_put_in : Stmt := mth 30 7
theorem sc_Elimination_put_in : FnScope ["self", "expression", "value"] ["self", "expression", "value"] (defScope s_Elimination_put_in) := ⟨rfl, rfl, rfl, by decide +kernel, rfl, by decide +kernel, by decide +kernel⟩
abbrev s_Elimination_equation_at : Stmt := mth 30 8
theorem sc_Elimination_equation_at : FnScope ["self", "index", "at", "remainder"] ["self", "index"] (defScope s_Elimination_equation_at) := ⟨rfl, rfl, rfl, by decide +kernel, rfl, by decide +kernel, by decide +kernel⟩
abbrev s_Elimination_solved_rows : Stmt := mth 30 9
theorem sc_Elimination_solved_rows : FnScope ["self", "equation", "a", "rest", "rows", "row", "factor", "scaled", "head"] ["self", "equation"] (defScope s_Elimination_solved_rows) := ⟨rfl, rfl, rfl, by decide +kernel, rfl, by decide +kernel, by decide +kernel⟩
abbrev s_Elimination_case_at : Stmt := mth 30 5
theorem sc_Elimination_case_at : FnScope ["self", "index", "rows", "row"] ["self", "index"] (defScope s_Elimination_case_at) := ⟨rfl, rfl, rfl, by decide +kernel, rfl, by decide +kernel, by decide +kernel⟩
abbrev s_cases : Stmt := top 34
theorem sc_cases : FnScope ["system", "k", "elimination", "index"] ["system", "k"] (defScope s_cases) := ⟨rfl, rfl, rfl, by decide +kernel, rfl, by decide +kernel, by decide +kernel⟩
abbrev s_case_count : Stmt := top 35
theorem sc_case_count : FnScope ["system", "k"] ["system", "k"] (defScope s_case_count) := ⟨rfl, rfl, rfl, by decide +kernel, rfl, by decide +kernel, by decide +kernel⟩
abbrev s_is_multiplier : Stmt := top 49
theorem sc_is_multiplier : FnScope ["kind", "multiplier"] ["kind", "multiplier"] (defScope s_is_multiplier) := ⟨rfl, rfl, rfl, by decide +kernel, rfl, by decide +kernel, by decide +kernel⟩
abbrev s_are_multipliers : Stmt := top 48
theorem sc_are_multipliers : FnScope ["system", "multipliers", "row", "multiplier"] ["system", "multipliers"] (defScope s_are_multipliers) := ⟨rfl, rfl, rfl, by decide +kernel, rfl, by decide +kernel, by decide +kernel⟩
abbrev s_added : Stmt := top 47
theorem sc_added : FnScope ["system", "multipliers", "divisor", "total", "multiplier", "row", "number"] ["system", "multipliers", "divisor"] (defScope s_added) := ⟨rfl, rfl, rfl, by decide +kernel, rfl, by decide +kernel, by decide +kernel⟩
abbrev s_split_by : Stmt := top 50
theorem sc_split_by : FnScope ["system", "expression", "opposite"] ["system", "expression"] (defScope s_split_by) := ⟨rfl, rfl, rfl, by decide +kernel, rfl, by decide +kernel, by decide +kernel⟩
abbrev s_closed : Stmt := top 46
theorem sc_closed : FnScope ["system"] ["system"] (defScope s_closed) := ⟨rfl, rfl, rfl, by decide +kernel, rfl, by decide +kernel, by decide +kernel⟩
abbrev s_check_case_counts : Stmt := top 52
theorem sc_check_case_counts : FnScope ["system", "k", "elimination"] ["system", "k"] (defScope s_check_case_counts) := ⟨rfl, rfl, rfl, by decide +kernel, rfl, by decide +kernel, by decide +kernel⟩
abbrev s_split_into_cases : Stmt := top 51
theorem sc_split_into_cases : FnScope ["system", "k"] ["system", "k"] (defScope s_split_into_cases) := ⟨rfl, rfl, rfl, by decide +kernel, rfl, by decide +kernel, by decide +kernel⟩
abbrev s_made_by : Stmt := top 45
theorem sc_made_by : FnScope ["system", "step"] ["system", "step"] (defScope s_made_by) := ⟨rfl, rfl, rfl, by decide +kernel, rfl, by decide +kernel, by decide +kernel⟩
abbrev s_check_left : Stmt := top 53
theorem sc_check_left : FnScope ["systems", "system"] ["systems"] (defScope s_check_left) := ⟨rfl, rfl, rfl, by decide +kernel, rfl, by decide +kernel, by decide +kernel⟩
abbrev s_check_numbers : Stmt := top 54
theorem sc_check_numbers : FnScope ["systems", "system", "row", "number"] ["systems"] (defScope s_check_numbers) := ⟨rfl, rfl, rfl, by decide +kernel, rfl, by decide +kernel, by decide +kernel⟩
abbrev s_left_behind : Stmt := top 44
theorem sc_left_behind : FnScope ["left", "steps", "make", "index", "step", "made"] ["left", "steps", "make"] (defScope s_left_behind) := ⟨rfl, rfl, rfl, by decide +kernel, rfl, by decide +kernel, by decide +kernel⟩
abbrev s_remaining : Stmt := top 43
theorem sc_remaining : FnScope ["system", "steps"] ["system", "steps"] (defScope s_remaining) := ⟨rfl, rfl, rfl, by decide +kernel, rfl, by decide +kernel, by decide +kernel⟩
abbrev s_apply_step : Stmt := top 42
theorem sc_apply_step : FnScope ["system", "step"] ["system", "step"] (defScope s_apply_step) := ⟨rfl, rfl, rfl, by decide +kernel, rfl, by decide +kernel, by decide +kernel⟩
abbrev s_law_cell : Stmt := top 56
theorem sc_law_cell : FnScope ["script", "k"] ["script", "k"] (defScope s_law_cell) := ⟨rfl, rfl, rfl, by decide +kernel, rfl, by decide +kernel, by decide +kernel⟩
abbrev s_law_draws : Stmt := top 57
theorem sc_law_draws : FnScope ["cell", "count", "result", "rest", "k", "mixed"] ["cell", "count"] (defScope s_law_draws) := ⟨rfl, rfl, rfl, by decide +kernel, rfl, by decide +kernel, by decide +kernel⟩
abbrev s_law_outcome : Stmt := top 58
theorem sc_law_outcome : FnScope ["system", "step", "e"] ["system", "step"] (defScope s_law_outcome) := ⟨rfl, rfl, rfl, by decide +kernel, rfl, by decide +kernel, by decide +kernel⟩
abbrev s_law_cases : Stmt := top 59
theorem sc_law_cases : FnScope ["cell", "size", "numbers", "rows", "number", "sign", "system", "count", "low", "row", "up", "due"] ["cell", "size"] (defScope s_law_cases) := ⟨rfl, rfl, rfl, by decide +kernel, rfl, by decide +kernel, by decide +kernel⟩
abbrev s_law_great : Stmt := top 60
theorem sc_law_great : FnScope ["cell", "numbers", "number", "made"] ["cell"] (defScope s_law_great) := ⟨rfl, rfl, rfl, by decide +kernel, rfl, by decide +kernel, by decide +kernel⟩
abbrev s_law_wide : Stmt := top 61
theorem sc_law_wide : FnScope ["cell", "variables", "system", "made"] ["cell"] (defScope s_law_wide) := ⟨rfl, rfl, rfl, by decide +kernel, rfl, by decide +kernel, by decide +kernel⟩
abbrev s_law_weighs : Stmt := top 62
theorem sc_law_weighs : FnScope ["splits", "rows", "system", "k", "steps", "weight", "most", "left"] ["splits", "rows"] (defScope s_law_weighs) := ⟨rfl, rfl, rfl, by decide +kernel, rfl, by decide +kernel, by decide +kernel⟩
abbrev s_law : Stmt := top 63
theorem sc_law : FnScope ["script"] ["script"] (defScope s_law) := ⟨rfl, rfl, rfl, by decide +kernel, rfl, by decide +kernel, by decide +kernel⟩
structure Ad where
  f_is_integer : Addr
  f_is_tuple_of_integers : Addr
  f_is_constraint : Addr
  f_impossible : Addr
  f_common_divisor : Addr
  f_divided : Addr
  f_reduced_inequality : Addr
  f_reduced_equation : Addr
  f_reduced_multiple : Addr
  f_reduced_constraint : Addr
  f_reduced_rows : Addr
  f_System___init__ : Addr
  f_System_is_impossible : Addr
  f_System_reduced : Addr
  f_System___add__ : Addr
  f_System___eq__ : Addr
  f_System_weight : Addr
  f_add : Addr
  f_multiply : Addr
  f_difference : Addr
  f_with_constant_added : Addr
  f_without : Addr
  f_changed : Addr
  f_common_multiple : Addr
  f_Elimination_rule_for : Addr
  f_Elimination_pivots_for : Addr
  f_Elimination___init__ : Addr
  f_Elimination_count_cases : Addr
  f_Elimination_count_joined : Addr
  f_Elimination_joined_rows : Addr
  f_Elimination_put_in : Addr
  f_Elimination_equation_at : Addr
  f_Elimination_solved_rows : Addr
  f_Elimination_case_at : Addr
  f_cases : Addr
  f_case_count : Addr
  f_is_multiplier : Addr
  f_are_multipliers : Addr
  f_added : Addr
  f_split_by : Addr
  f_closed : Addr
  f_check_case_counts : Addr
  f_split_into_cases : Addr
  f_made_by : Addr
  f_check_left : Addr
  f_check_numbers : Addr
  f_left_behind : Addr
  f_remaining : Addr
  f_apply_step : Addr
  f_law_cell : Addr
  f_law_draws : Addr
  f_law_outcome : Addr
  f_law_cases : Addr
  f_law_great : Addr
  f_law_wide : Addr
  f_law_weighs : Addr
  f_law : Addr
  d_is_integer : FuncData
  d_is_tuple_of_integers : FuncData
  d_is_constraint : FuncData
  d_impossible : FuncData
  d_common_divisor : FuncData
  d_divided : FuncData
  d_reduced_inequality : FuncData
  d_reduced_equation : FuncData
  d_reduced_multiple : FuncData
  d_reduced_constraint : FuncData
  d_reduced_rows : FuncData
  d_System___init__ : FuncData
  d_System_is_impossible : FuncData
  d_System_reduced : FuncData
  d_System___add__ : FuncData
  d_System___eq__ : FuncData
  d_System_weight : FuncData
  d_add : FuncData
  d_multiply : FuncData
  d_difference : FuncData
  d_with_constant_added : FuncData
  d_without : FuncData
  d_changed : FuncData
  d_common_multiple : FuncData
  d_Elimination_rule_for : FuncData
  d_Elimination_pivots_for : FuncData
  d_Elimination___init__ : FuncData
  d_Elimination_count_cases : FuncData
  d_Elimination_count_joined : FuncData
  d_Elimination_joined_rows : FuncData
  d_Elimination_put_in : FuncData
  d_Elimination_equation_at : FuncData
  d_Elimination_solved_rows : FuncData
  d_Elimination_case_at : FuncData
  d_cases : FuncData
  d_case_count : FuncData
  d_is_multiplier : FuncData
  d_are_multipliers : FuncData
  d_added : FuncData
  d_split_by : FuncData
  d_closed : FuncData
  d_check_case_counts : FuncData
  d_split_into_cases : FuncData
  d_made_by : FuncData
  d_check_left : FuncData
  d_check_numbers : FuncData
  d_left_behind : FuncData
  d_remaining : FuncData
  d_apply_step : FuncData
  d_law_cell : FuncData
  d_law_draws : FuncData
  d_law_outcome : FuncData
  d_law_cases : FuncData
  d_law_great : FuncData
  d_law_wide : FuncData
  d_law_weighs : FuncData
  d_law : FuncData
  p_System_is_impossible : Addr
  p_System_weight : Addr
  t_MOST_JOINED : Tok
  t_MOST_CASES : Tok
  t_MOST_WEIGHT : Tok
  t_MOST_VARIABLES : Tok
  t_GREATEST : Tok
  C_System : Addr
  C_Elimination : Addr
  xC : Addr
  xf : Addr
  xcc : Addr
  xc : Addr
  xd : FuncData
  xM : Addr
  xG : Addr
  xW : Addr
structure Txt (K : PySem.W.Frag) (mg : Str → Option Value) (A : Ad) : Prop where
  tf : TF PRG K mg A.xC A.xf A.xcc A.xc A.xd
  tm : TE1 K mg "TooMany" A.xM BMV "ValueError.__new__"
  tg : TE1 K mg "TooGreat" A.xG BMV "ValueError.__new__"
  gW : mg "WorkError" = some (.ref A.xW)
  eM : ExcC K A.xM
  eG : ExcC K A.xG
  m1 : PySem.W.kitOne K (.ref A.xM) (.ref A.xW) = some true
  m2 : PySem.W.kitOne K (.ref A.xM) (.ref A.xG) = some false
  g1 : PySem.W.kitOne K (.ref A.xG) (.ref A.xW) = some true
  g2 : PySem.W.kitOne K (.ref A.xG) (.ref A.xM) = some false
  x1 : PySem.W.exmOne K (.ref A.xM) (.ref A.xM) = some true
  x2 : PySem.W.exmOne K (.ref A.xG) (.ref A.xM) = some false
  x3 : PySem.W.exmOne K (.ref A.xG) (.ref A.xG) = some true
  kS : PySem.W.kitOne K (.type "str") (.ref A.C_System) = some false
  sS : PySem.W.subIn K (.type "str") (.ref A.C_System) = some false
  b_isinstance : mg "isinstance" = none
  b_bool : mg "bool" = none
  b_int : mg "int" = none
  b_all : mg "all" = none
  b_len : mg "len" = none
  b_tuple : mg "tuple" = none
  b_min : mg "min" = none
  b_zip : mg "zip" = none
  b_sum : mg "sum" = none
  b_max : mg "max" = none
  b_abs : mg "abs" = none
  b_range : mg "range" = none
  b_any : mg "any" = none
  b_enumerate : mg "enumerate" = none
  u_gcd : mg "gcd" = some (.builtin "math.gcd")
  u_lcm : mg "lcm" = some (.builtin "math.lcm")
  g_is_integer : mg "is_integer" = some (.ref A.f_is_integer)
  F_is_integer : Fun K "is_integer" "is_integer" s_is_integer A.f_is_integer A.d_is_integer
  B_is_integer : Binds K A.d_is_integer ["value"] []
  g_is_tuple_of_integers : mg "is_tuple_of_integers" = some (.ref A.f_is_tuple_of_integers)
  F_is_tuple_of_integers : Fun K "is_tuple_of_integers" "is_tuple_of_integers" s_is_tuple_of_integers A.f_is_tuple_of_integers A.d_is_tuple_of_integers
  B_is_tuple_of_integers : Binds K A.d_is_tuple_of_integers ["value", "count"] []
  g_is_constraint : mg "is_constraint" = some (.ref A.f_is_constraint)
  F_is_constraint : Fun K "is_constraint" "is_constraint" s_is_constraint A.f_is_constraint A.d_is_constraint
  B_is_constraint : Binds K A.d_is_constraint ["row", "variables"] []
  g_impossible : mg "impossible" = some (.ref A.f_impossible)
  F_impossible : Fun K "impossible" "impossible" s_impossible A.f_impossible A.d_impossible
  B_impossible : Binds K A.d_impossible ["variables"] []
  g_common_divisor : mg "common_divisor" = some (.ref A.f_common_divisor)
  F_common_divisor : Fun K "common_divisor" "common_divisor" s_common_divisor A.f_common_divisor A.d_common_divisor
  B_common_divisor : Binds K A.d_common_divisor ["first", "numbers"] []
  g_divided : mg "divided" = some (.ref A.f_divided)
  F_divided : Fun K "divided" "divided" s_divided A.f_divided A.d_divided
  B_divided : Binds K A.d_divided ["expression", "divisor"] []
  g_reduced_inequality : mg "reduced_inequality" = some (.ref A.f_reduced_inequality)
  F_reduced_inequality : Fun K "reduced_inequality" "reduced_inequality" s_reduced_inequality A.f_reduced_inequality A.d_reduced_inequality
  B_reduced_inequality : Binds K A.d_reduced_inequality ["divisor", "expression"] []
  g_reduced_equation : mg "reduced_equation" = some (.ref A.f_reduced_equation)
  F_reduced_equation : Fun K "reduced_equation" "reduced_equation" s_reduced_equation A.f_reduced_equation A.d_reduced_equation
  B_reduced_equation : Binds K A.d_reduced_equation ["divisor", "expression"] []
  g_reduced_multiple : mg "reduced_multiple" = some (.ref A.f_reduced_multiple)
  F_reduced_multiple : Fun K "reduced_multiple" "reduced_multiple" s_reduced_multiple A.f_reduced_multiple A.d_reduced_multiple
  B_reduced_multiple : Binds K A.d_reduced_multiple ["m", "expression"] []
  g_reduced_constraint : mg "reduced_constraint" = some (.ref A.f_reduced_constraint)
  F_reduced_constraint : Fun K "reduced_constraint" "reduced_constraint" s_reduced_constraint A.f_reduced_constraint A.d_reduced_constraint
  B_reduced_constraint : Binds K A.d_reduced_constraint ["constraint"] []
  g_reduced_rows : mg "reduced_rows" = some (.ref A.f_reduced_rows)
  F_reduced_rows : Fun K "reduced_rows" "reduced_rows" s_reduced_rows A.f_reduced_rows A.d_reduced_rows
  B_reduced_rows : Binds K A.d_reduced_rows ["variables", "rows"] []
  me_System___init__ : Meth K A.C_System "__init__" A.f_System___init__
  F_System___init__ : Fun K "__init__" "System.__init__" s_System___init__ A.f_System___init__ A.d_System___init__
  B_System___init__ : Binds K A.d_System___init__ ["self", "variables", "rows"] []
  pr_System_is_impossible : PropOf K A.C_System "is_impossible" A.p_System_is_impossible A.f_System_is_impossible
  F_System_is_impossible : Fun K "is_impossible" "System.is_impossible" s_System_is_impossible A.f_System_is_impossible A.d_System_is_impossible
  B_System_is_impossible : Binds K A.d_System_is_impossible ["self"] []
  me_System_reduced : Meth K A.C_System "reduced" A.f_System_reduced
  F_System_reduced : Fun K "reduced" "System.reduced" s_System_reduced A.f_System_reduced A.d_System_reduced
  B_System_reduced : Binds K A.d_System_reduced ["self"] []
  me_System___add__ : Meth K A.C_System "__add__" A.f_System___add__
  F_System___add__ : Fun K "__add__" "System.__add__" s_System___add__ A.f_System___add__ A.d_System___add__
  B_System___add__ : Binds K A.d_System___add__ ["self", "other"] []
  me_System___eq__ : Meth K A.C_System "__eq__" A.f_System___eq__
  F_System___eq__ : Fun K "__eq__" "System.__eq__" s_System___eq__ A.f_System___eq__ A.d_System___eq__
  B_System___eq__ : Binds K A.d_System___eq__ ["self", "other"] []
  pr_System_weight : PropOf K A.C_System "weight" A.p_System_weight A.f_System_weight
  F_System_weight : Fun K "weight" "System.weight" s_System_weight A.f_System_weight A.d_System_weight
  B_System_weight : Binds K A.d_System_weight ["self"] []
  g_add : mg "add" = some (.ref A.f_add)
  F_add : Fun K "add" "add" s_add A.f_add A.d_add
  B_add : Binds K A.d_add ["one", "other"] []
  g_multiply : mg "multiply" = some (.ref A.f_multiply)
  F_multiply : Fun K "multiply" "multiply" s_multiply A.f_multiply A.d_multiply
  B_multiply : Binds K A.d_multiply ["factor", "expression"] []
  g_difference : mg "difference" = some (.ref A.f_difference)
  F_difference : Fun K "difference" "difference" s_difference A.f_difference A.d_difference
  B_difference : Binds K A.d_difference ["one", "other"] []
  g_with_constant_added : mg "with_constant_added" = some (.ref A.f_with_constant_added)
  F_with_constant_added : Fun K "with_constant_added" "with_constant_added" s_with_constant_added A.f_with_constant_added A.d_with_constant_added
  B_with_constant_added : Binds K A.d_with_constant_added ["expression", "number"] []
  g_without : mg "without" = some (.ref A.f_without)
  F_without : Fun K "without" "without" s_without A.f_without A.d_without
  B_without : Binds K A.d_without ["expression", "k"] []
  g_changed : mg "changed" = some (.ref A.f_changed)
  F_changed : Fun K "changed" "changed" s_changed A.f_changed A.d_changed
  B_changed : Binds K A.d_changed ["row", "expression"] []
  g_common_multiple : mg "common_multiple" = some (.ref A.f_common_multiple)
  F_common_multiple : Fun K "common_multiple" "common_multiple" s_common_multiple A.f_common_multiple A.d_common_multiple
  B_common_multiple : Binds K A.d_common_multiple ["numbers"] []
  me_Elimination_rule_for : Meth K A.C_Elimination "rule_for" A.f_Elimination_rule_for
  F_Elimination_rule_for : Fun K "rule_for" "Elimination.rule_for" s_Elimination_rule_for A.f_Elimination_rule_for A.d_Elimination_rule_for
  B_Elimination_rule_for : Binds K A.d_Elimination_rule_for ["self", "has_equations", "has_divisors"] []
  me_Elimination_pivots_for : Meth K A.C_Elimination "pivots_for" A.f_Elimination_pivots_for
  F_Elimination_pivots_for : Fun K "pivots_for" "Elimination.pivots_for" s_Elimination_pivots_for A.f_Elimination_pivots_for A.d_Elimination_pivots_for
  B_Elimination_pivots_for : Binds K A.d_Elimination_pivots_for ["self", "equations"] []
  me_Elimination___init__ : Meth K A.C_Elimination "__init__" A.f_Elimination___init__
  F_Elimination___init__ : Fun K "__init__" "Elimination.__init__" s_Elimination___init__ A.f_Elimination___init__ A.d_Elimination___init__
  B_Elimination___init__ : Binds K A.d_Elimination___init__ ["self", "system", "k"] []
  me_Elimination_count_cases : Meth K A.C_Elimination "count_cases" A.f_Elimination_count_cases
  F_Elimination_count_cases : Fun K "count_cases" "Elimination.count_cases" s_Elimination_count_cases A.f_Elimination_count_cases A.d_Elimination_count_cases
  B_Elimination_count_cases : Binds K A.d_Elimination_count_cases ["self"] []
  me_Elimination_count_joined : Meth K A.C_Elimination "count_joined" A.f_Elimination_count_joined
  F_Elimination_count_joined : Fun K "count_joined" "Elimination.count_joined" s_Elimination_count_joined A.f_Elimination_count_joined A.d_Elimination_count_joined
  B_Elimination_count_joined : Binds K A.d_Elimination_count_joined ["self"] []
  me_Elimination_joined_rows : Meth K A.C_Elimination "joined_rows" A.f_Elimination_joined_rows
  F_Elimination_joined_rows : Fun K "joined_rows" "Elimination.joined_rows" s_Elimination_joined_rows A.f_Elimination_joined_rows A.d_Elimination_joined_rows
  B_Elimination_joined_rows : Binds K A.d_Elimination_joined_rows ["self"] []
  me_Elimination_put_in : Meth K A.C_Elimination "put_in" A.f_Elimination_put_in
  F_Elimination_put_in : Fun K "put_in" "Elimination.put_in" s_Elimination_put_in A.f_Elimination_put_in A.d_Elimination_put_in
  B_Elimination_put_in : Binds K A.d_Elimination_put_in ["self", "expression", "value"] []
  me_Elimination_equation_at : Meth K A.C_Elimination "equation_at" A.f_Elimination_equation_at
  F_Elimination_equation_at : Fun K "equation_at" "Elimination.equation_at" s_Elimination_equation_at A.f_Elimination_equation_at A.d_Elimination_equation_at
  B_Elimination_equation_at : Binds K A.d_Elimination_equation_at ["self", "index"] []
  me_Elimination_solved_rows : Meth K A.C_Elimination "solved_rows" A.f_Elimination_solved_rows
  F_Elimination_solved_rows : Fun K "solved_rows" "Elimination.solved_rows" s_Elimination_solved_rows A.f_Elimination_solved_rows A.d_Elimination_solved_rows
  B_Elimination_solved_rows : Binds K A.d_Elimination_solved_rows ["self", "equation"] []
  me_Elimination_case_at : Meth K A.C_Elimination "case_at" A.f_Elimination_case_at
  F_Elimination_case_at : Fun K "case_at" "Elimination.case_at" s_Elimination_case_at A.f_Elimination_case_at A.d_Elimination_case_at
  B_Elimination_case_at : Binds K A.d_Elimination_case_at ["self", "index"] []
  g_cases : mg "cases" = some (.ref A.f_cases)
  F_cases : Fun K "cases" "cases" s_cases A.f_cases A.d_cases
  B_cases : Binds K A.d_cases ["system", "k"] []
  g_case_count : mg "case_count" = some (.ref A.f_case_count)
  F_case_count : Fun K "case_count" "case_count" s_case_count A.f_case_count A.d_case_count
  B_case_count : Binds K A.d_case_count ["system", "k"] []
  g_is_multiplier : mg "is_multiplier" = some (.ref A.f_is_multiplier)
  F_is_multiplier : Fun K "is_multiplier" "is_multiplier" s_is_multiplier A.f_is_multiplier A.d_is_multiplier
  B_is_multiplier : Binds K A.d_is_multiplier ["kind", "multiplier"] []
  g_are_multipliers : mg "are_multipliers" = some (.ref A.f_are_multipliers)
  F_are_multipliers : Fun K "are_multipliers" "are_multipliers" s_are_multipliers A.f_are_multipliers A.d_are_multipliers
  B_are_multipliers : Binds K A.d_are_multipliers ["system", "multipliers"] []
  g_added : mg "added" = some (.ref A.f_added)
  F_added : Fun K "added" "added" s_added A.f_added A.d_added
  B_added : Binds K A.d_added ["system", "multipliers", "divisor"] []
  g_split_by : mg "split_by" = some (.ref A.f_split_by)
  F_split_by : Fun K "split_by" "split_by" s_split_by A.f_split_by A.d_split_by
  B_split_by : Binds K A.d_split_by ["system", "expression"] []
  g_closed : mg "closed" = some (.ref A.f_closed)
  F_closed : Fun K "closed" "closed" s_closed A.f_closed A.d_closed
  B_closed : Binds K A.d_closed ["system"] []
  g_check_case_counts : mg "check_case_counts" = some (.ref A.f_check_case_counts)
  F_check_case_counts : Fun K "check_case_counts" "check_case_counts" s_check_case_counts A.f_check_case_counts A.d_check_case_counts
  B_check_case_counts : Binds K A.d_check_case_counts ["system", "k"] []
  g_split_into_cases : mg "split_into_cases" = some (.ref A.f_split_into_cases)
  F_split_into_cases : Fun K "split_into_cases" "split_into_cases" s_split_into_cases A.f_split_into_cases A.d_split_into_cases
  B_split_into_cases : Binds K A.d_split_into_cases ["system", "k"] []
  g_made_by : mg "made_by" = some (.ref A.f_made_by)
  F_made_by : Fun K "made_by" "made_by" s_made_by A.f_made_by A.d_made_by
  B_made_by : Binds K A.d_made_by ["system", "step"] []
  g_check_left : mg "check_left" = some (.ref A.f_check_left)
  F_check_left : Fun K "check_left" "check_left" s_check_left A.f_check_left A.d_check_left
  B_check_left : Binds K A.d_check_left ["systems"] []
  g_check_numbers : mg "check_numbers" = some (.ref A.f_check_numbers)
  F_check_numbers : Fun K "check_numbers" "check_numbers" s_check_numbers A.f_check_numbers A.d_check_numbers
  B_check_numbers : Binds K A.d_check_numbers ["systems"] []
  g_left_behind : mg "left_behind" = some (.ref A.f_left_behind)
  F_left_behind : Fun K "left_behind" "left_behind" s_left_behind A.f_left_behind A.d_left_behind
  B_left_behind : Binds K A.d_left_behind ["left", "steps", "make"] []
  g_remaining : mg "remaining" = some (.ref A.f_remaining)
  F_remaining : Fun K "remaining" "remaining" s_remaining A.f_remaining A.d_remaining
  B_remaining : Binds K A.d_remaining ["system", "steps"] []
  g_apply_step : mg "apply_step" = some (.ref A.f_apply_step)
  F_apply_step : Fun K "apply_step" "apply_step" s_apply_step A.f_apply_step A.d_apply_step
  B_apply_step : Binds K A.d_apply_step ["system", "step"] []
  g_law_cell : mg "_law_cell" = some (.ref A.f_law_cell)
  F_law_cell : Fun K "_law_cell" "_law_cell" s_law_cell A.f_law_cell A.d_law_cell
  B_law_cell : Binds K A.d_law_cell ["script", "k"] []
  g_law_draws : mg "_law_draws" = some (.ref A.f_law_draws)
  F_law_draws : Fun K "_law_draws" "_law_draws" s_law_draws A.f_law_draws A.d_law_draws
  B_law_draws : Binds K A.d_law_draws ["cell", "count"] []
  g_law_outcome : mg "_law_outcome" = some (.ref A.f_law_outcome)
  F_law_outcome : Fun K "_law_outcome" "_law_outcome" s_law_outcome A.f_law_outcome A.d_law_outcome
  B_law_outcome : Binds K A.d_law_outcome ["system", "step"] []
  g_law_cases : mg "_law_cases" = some (.ref A.f_law_cases)
  F_law_cases : Fun K "_law_cases" "_law_cases" s_law_cases A.f_law_cases A.d_law_cases
  B_law_cases : Binds K A.d_law_cases ["cell", "size"] []
  g_law_great : mg "_law_great" = some (.ref A.f_law_great)
  F_law_great : Fun K "_law_great" "_law_great" s_law_great A.f_law_great A.d_law_great
  B_law_great : Binds K A.d_law_great ["cell"] []
  g_law_wide : mg "_law_wide" = some (.ref A.f_law_wide)
  F_law_wide : Fun K "_law_wide" "_law_wide" s_law_wide A.f_law_wide A.d_law_wide
  B_law_wide : Binds K A.d_law_wide ["cell"] []
  g_law_weighs : mg "_law_weighs" = some (.ref A.f_law_weighs)
  F_law_weighs : Fun K "_law_weighs" "_law_weighs" s_law_weighs A.f_law_weighs A.d_law_weighs
  B_law_weighs : Binds K A.d_law_weighs ["splits", "rows"] []
  g_law : mg "law" = some (.ref A.f_law)
  F_law : Fun K "law" "law" s_law A.f_law A.d_law
  B_law : Binds K A.d_law ["script"] []
  gC_System : mg "System" = some (.ref A.C_System)
  cl_System : Cls K A.C_System
  mk_System : Mk K A.C_System A.f_System___init__
  na_System_variables : NoAttr K A.C_System "variables"
  na_System_rows : NoAttr K A.C_System "rows"
  is_System : C8.InsC K A.C_System
  ad_System : AddC K A.C_System A.f_System___add__
  gC_Elimination : mg "Elimination" = some (.ref A.C_Elimination)
  cl_Elimination : Cls K A.C_Elimination
  mk_Elimination : Mk K A.C_Elimination A.f_Elimination___init__
  na_Elimination_system : NoAttr K A.C_Elimination "system"
  na_Elimination_k : NoAttr K A.C_Elimination "k"
  na_Elimination_others : NoAttr K A.C_Elimination "others"
  na_Elimination_lowers : NoAttr K A.C_Elimination "lowers"
  na_Elimination_uppers : NoAttr K A.C_Elimination "uppers"
  na_Elimination_period : NoAttr K A.C_Elimination "period"
  na_Elimination_rule : NoAttr K A.C_Elimination "rule"
  na_Elimination_pivots : NoAttr K A.C_Elimination "pivots"
  g_MOST_JOINED : mg "MOST_JOINED" = some (.int 4000 A.t_MOST_JOINED)
  g_MOST_CASES : mg "MOST_CASES" = some (.int 200 A.t_MOST_CASES)
  g_MOST_WEIGHT : mg "MOST_WEIGHT" = some (.int 4000 A.t_MOST_WEIGHT)
  g_MOST_VARIABLES : mg "MOST_VARIABLES" = some (.int 40 A.t_MOST_VARIABLES)
  g_GREATEST : mg "GREATEST" = some (.int 1000000000000000000 A.t_GREATEST)
/-! ### constraints -/
inductive Kd where
  | ge | eq | div (m : Int)
deriving DecidableEq
structure Ct where
  k : Kd
  c : List Int
  d : Int
deriving DecidableEq
def dot : List Int → List Int → Int
  | c :: cs, p :: ps => c * p + dot cs ps
  | _, _ => 0
def Kd.holds : Kd → Int → Bool
  | .ge, v => decide (0 ≤ v)
  | .eq, v => decide (v = 0)
  | .div m, v => decide (v % m = 0)
def Ct.at_ (t : Ct) (p : List Int) : Bool := t.k.holds (dot t.c p + t.d)
def Kd.ok : Kd → Prop
  | .div m => 1 ≤ m
  | _ => True
/-- the greatest common divisor of a number and more of them -/
def gl (g : Nat) : List Int → Nat
  | [] => g
  | x :: r => gl (Nat.gcd g x.natAbs) r
theorem gl_dvd : ∀ (l : List Int) (g : Nat), gl g l ∣ g ∧ ∀ x ∈ l, (gl g l : Int) ∣ x
  | [], g => ⟨Nat.dvd_refl g, fun _ h => by cases h⟩
  | y :: r, g => by
    obtain ⟨h1, h2⟩ := gl_dvd r (Nat.gcd g y.natAbs)
    refine ⟨Nat.dvd_trans h1 (Nat.gcd_dvd_left _ _), fun x hx => ?_⟩
    rcases List.mem_cons.mp hx with rfl | hx
    · exact Int.ofNat_dvd_left.mpr (Nat.dvd_trans h1 (Nat.gcd_dvd_right _ _))
    · exact h2 x hx
theorem gl_great : ∀ (l : List Int) (g k : Nat), k ∣ g → (∀ x ∈ l, (k : Int) ∣ x) → k ∣ gl g l
  | [], _, _, h, _ => h
  | y :: r, g, k, h, hx => gl_great r _ k (Nat.dvd_gcd h (Int.ofNat_dvd_left.mp (hx y (List.mem_cons_self ..)))) (fun x h' => hx x (List.mem_cons_of_mem _ h'))
theorem gl_zero {l : List Int} {g : Nat} (h : gl g l = 0) : g = 0 ∧ ∀ x ∈ l, x = 0 := by
  obtain ⟨h1, h2⟩ := gl_dvd l g
  rw [h] at h1 h2
  exact ⟨Nat.eq_zero_of_zero_dvd h1, fun x hx => Int.zero_dvd.mp (h2 x hx)⟩
theorem gl_le {l : List Int} {g b : Nat} (hb : ∀ x ∈ l, x.natAbs ≤ b) (hg : g ≤ b) : gl g l ≤ b := by
  by_cases h0 : g = 0
  · subst h0
    clear hg
    induction l with
    | nil => exact Nat.zero_le _
    | cons y r ih =>
      rw [gl, Nat.gcd_zero_left]
      by_cases hy : y.natAbs = 0
      · rw [hy]; exact ih fun x hx => hb x (List.mem_cons_of_mem _ hx)
      · exact Nat.le_trans (Nat.le_of_dvd (by omega) (gl_dvd r _).1) (hb y (List.mem_cons_self ..))
  · exact Nat.le_trans (Nat.le_of_dvd (by omega) (gl_dvd l g).1) hg
/-- the greatest common divisor of divided numbers is 1 -/
theorem gl_div {l : List Int} {g : Nat} (hp : 0 < gl g l) : gl (g / gl g l) (l.map (· / (gl g l : Int))) = 1 := by
  obtain ⟨h1, h2⟩ := gl_dvd l g
  generalize hG : gl g l = G at *
  obtain ⟨i1, i2⟩ := gl_dvd (l.map (· / (G : Int))) (g / G)
  generalize hK : gl (g / G) (l.map (· / (G : Int))) = k at *
  have d1 : G * k ∣ g := by
    obtain ⟨a, e⟩ := i1
    refine ⟨a, ?_⟩
    rw [Nat.mul_assoc, ← e, Nat.mul_div_cancel' h1]
  have d2 : ∀ x ∈ l, ((G * k : Nat) : Int) ∣ x := fun x hx => by
    obtain ⟨a, e⟩ := i2 _ (List.mem_map.mpr ⟨x, hx, rfl⟩)
    refine ⟨a, ?_⟩
    rw [Int.natCast_mul, Int.mul_assoc, ← e, Int.mul_ediv_cancel' (h2 x hx)]
  have d3 := gl_great l g (G * k) d1 d2
  rw [hG] at d3
  have d4 : G * k ≤ G * 1 := by rw [Nat.mul_one]; exact Nat.le_of_dvd hp d3
  have d5 := Nat.le_of_mul_le_mul_left d4 hp
  have d6 : k ≠ 0 := fun z => by
    rw [z, Nat.mul_zero] at d3
    have := Nat.eq_zero_of_zero_dvd d3
    omega
  omega
theorem dot_map (g : Int) : ∀ (c p : List Int), (∀ x ∈ c, g ∣ x) → dot c p = g * dot (c.map (· / g)) p
  | [], _, _ => (Int.mul_zero g).symm
  | _ :: _, [], _ => (Int.mul_zero g).symm
  | x :: c, y :: p, h => by
    rw [List.map_cons, dot, dot, dot_map g c p fun z hz => h z (List.mem_cons_of_mem _ hz), Int.mul_add, ← Int.mul_assoc, Int.mul_ediv_cancel' (h x (List.mem_cons_self ..))]
theorem dot_zero : ∀ (c p : List Int), (∀ x ∈ c, x = 0) → dot c p = 0
  | [], _, _ => rfl
  | _ :: _, [], _ => rfl
  | x :: c, y :: p, h => by
    rw [dot, h x (List.mem_cons_self ..), dot_zero c p fun z hz => h z (List.mem_cons_of_mem _ hz), Int.zero_mul, Int.zero_add]
theorem dot_neg : ∀ (c p : List Int), dot (c.map (- ·)) p = - dot c p
  | [], _ => rfl
  | _ :: _, [] => rfl
  | x :: c, y :: p => by
    rw [List.map_cons, dot, dot, dot_neg c p, Int.neg_add, Int.neg_mul]
theorem dot_mod (m : Int) : ∀ (c p : List Int), (dot (c.map (· % m)) p) % m = (dot c p) % m
  | [], _ => rfl
  | _ :: _, [] => rfl
  | x :: c, y :: p => by
    rw [List.map_cons, dot, dot, Int.add_emod, dot_mod m c p, ← Int.add_emod, Int.add_emod, Int.mul_emod, Int.emod_emod_of_dvd x (Int.dvd_refl m), ← Int.mul_emod, ← Int.add_emod]
def imp (n : Nat) : Ct := ⟨.ge, List.replicate n 0, -1⟩
def red (t : Ct) : Option Ct :=
  match t.k with
  | .ge => let g := gl 0 t.c
    if 0 < g then some ⟨.ge, t.c.map (· / (g : Int)), t.d / (g : Int)⟩ else if 0 ≤ t.d then none else some (imp t.c.length)
  | .eq => let g := gl 0 t.c
    if g = 0 ∧ t.d = 0 then none else if g = 0 ∨ t.d % (g : Int) ≠ 0 then some (imp t.c.length) else
    let ns := t.c.map (· / (g : Int))
    if 0 < ((ns.filter (· ≠ 0)).headD 0) then some ⟨.eq, ns, t.d / (g : Int)⟩ else some ⟨.eq, ns.map (- ·), -(t.d / (g : Int))⟩
  | .div m => let ns := t.c.map (· % m)
    let h := gl m.toNat ns
    if (t.d % m) % (h : Int) ≠ 0 then some (imp t.c.length) else
    if h = m.toNat then none else some ⟨.div (m / (h : Int)), ns.map (· / (h : Int)), (t.d % m) / (h : Int)⟩
theorem imp_at (n : Nat) (p : List Int) : (imp n).at_ p = false := by
  rw [Ct.at_, imp, dot_zero _ _ (fun x hx => List.eq_of_mem_replicate hx)]
  rfl
def rAt (o : Option Ct) (p : List Int) : Bool := match o with | none => true | some t => t.at_ p
theorem div_mul (m : Int) (g : Nat) (_ : 0 < g) (hd : (g : Int) ∣ m) (v : Int) : decide (((g : Int) * v) % m = 0) = decide (v % (m / (g : Int)) = 0) := by
  refine decide_eq_decide.mpr ?_
  obtain ⟨k, rfl⟩ := hd
  have hg : (g : Int) ≠ 0 := by omega
  rw [Int.mul_ediv_cancel_left k hg]
  constructor
  · intro h
    obtain ⟨a, e⟩ := Int.dvd_of_emod_eq_zero h
    rw [Int.mul_assoc] at e
    exact Int.emod_eq_zero_of_dvd ⟨a, Int.eq_of_mul_eq_mul_left hg e⟩
  · intro h
    obtain ⟨a, rfl⟩ := Int.dvd_of_emod_eq_zero h
    exact Int.emod_eq_zero_of_dvd ⟨a, (Int.mul_assoc ..).symm⟩
theorem gl_toNat_dvd {m : Int} (hm : 1 ≤ m) (l : List Int) : ((gl m.toNat l : Nat) : Int) ∣ m := by
  have h : ((gl m.toNat l : Nat) : Int) ∣ (m.toNat : Int) := Int.natCast_dvd_natCast.mpr (gl_dvd l m.toNat).1
  rw [Int.toNat_of_nonneg (by omega)] at h
  exact h
theorem gl_pos {m : Int} (hm : 1 ≤ m) (l : List Int) : 0 < gl m.toNat l := by
  rcases Nat.eq_zero_or_pos (gl m.toNat l) with h | h
  · have := (gl_zero h).1
    omega
  · exact h
theorem red_at (t : Ct) (ok : t.k.ok) (p : List Int) : rAt (red t) p = t.at_ p := by
  obtain ⟨k, c, d⟩ := t
  cases k with
  | ge =>
    simp only [red]
    by_cases hg : 0 < gl 0 c
    · rw [if_pos hg]
      simp only [rAt, Ct.at_, Kd.holds]
      have hd := (gl_dvd c 0).2
      generalize gl 0 c = g at *
      rw [dot_map (g : Int) c p hd]
      refine decide_eq_decide.mpr ?_
      generalize dot (c.map (· / (g : Int))) p = v
      have e1 := Int.mul_ediv_add_emod d (g : Int)
      have e2 := Int.emod_nonneg d (show (g : Int) ≠ 0 by omega)
      have e3 := Int.emod_lt_of_pos d (show (0 : Int) < (g : Int) by omega)
      generalize d / (g : Int) = q at *
      generalize d % (g : Int) = r at *
      subst e1
      constructor
      · intro h
        have := Int.mul_nonneg (show (0 : Int) ≤ g by omega) h
        rw [Int.mul_add] at this
        omega
      · intro h
        rcases Int.lt_or_le (v + q) 0 with hlt | hle
        · have h1 : (g : Int) * (v + q) ≤ (g : Int) * (-1) := Int.mul_le_mul_of_nonneg_left (by omega) (by omega)
          rw [Int.mul_add] at h1
          omega
        · exact hle
    · rw [if_neg hg]
      have hz := (gl_zero (Nat.le_zero.mp (Nat.not_lt.mp hg))).2
      by_cases h0 : 0 ≤ d
      · rw [if_pos h0]
        simp only [rAt, Ct.at_, Kd.holds, dot_zero c p hz]
        exact (decide_eq_true (by omega)).symm
      · rw [if_neg h0]
        simp only [rAt, imp_at]
        simp only [Ct.at_, Kd.holds, dot_zero c p hz]
        exact (decide_eq_false (by omega)).symm
  | eq =>
    simp only [red]
    by_cases h1 : gl 0 c = 0 ∧ d = 0
    · rw [if_pos h1]
      have hz := (gl_zero h1.1).2
      simp only [rAt, Ct.at_, Kd.holds, dot_zero c p hz]
      exact (decide_eq_true (by omega)).symm
    · rw [if_neg h1]
      by_cases h2 : gl 0 c = 0 ∨ d % (gl 0 c : Int) ≠ 0
      · rw [if_pos h2]
        simp only [rAt, imp_at]
        simp only [Ct.at_, Kd.holds]
        symm
        refine decide_eq_false fun hv => ?_
        by_cases hg : gl 0 c = 0
        · have hz := (gl_zero hg).2
          rw [dot_zero c p hz] at hv
          exact h1 ⟨hg, by omega⟩
        · rcases h2 with h2 | h2
          · exact hg h2
          · have hd := (gl_dvd c 0).2
            rw [dot_map _ c p hd] at hv
            refine h2 (Int.emod_eq_zero_of_dvd ⟨-dot (c.map (· / (gl 0 c : Int))) p, ?_⟩)
            rw [Int.mul_neg]
            omega
      · rw [if_neg h2]
        have hg : gl 0 c ≠ 0 := fun z => h2 (.inl z)
        have hr : d % (gl 0 c : Int) = 0 := Classical.byContradiction fun z => h2 (.inr z)
        have hd := (gl_dvd c 0).2
        have main : decide (dot c p + d = 0) = decide (dot (c.map (· / (gl 0 c : Int))) p + d / (gl 0 c : Int) = 0) := by
          refine decide_eq_decide.mpr ?_
          have ed := Int.mul_ediv_cancel' (Int.dvd_of_emod_eq_zero hr)
          rw [dot_map _ c p hd]
          generalize dot (c.map (· / (gl 0 c : Int))) p = v
          generalize d / (gl 0 c : Int) = q at *
          rw [← ed, ← Int.mul_add]
          constructor
          · intro h
            rcases Int.mul_eq_zero.mp h with h | h
            · omega
            · exact h
          · intro h
            rw [h, Int.mul_zero]
        split
        · simp only [rAt, Ct.at_, Kd.holds]
          exact main.symm
        · simp only [rAt, Ct.at_, Kd.holds, dot_neg]
          rw [main]
          exact decide_eq_decide.mpr (by omega)
  | div m =>
    have hm : 1 ≤ m := ok
    simp only [red]
    have hD := gl_toNat_dvd hm (c.map (· % m))
    have hP := gl_pos hm (c.map (· % m))
    have hA := (gl_dvd (c.map (· % m)) m.toNat).2
    have base : decide ((dot c p + d) % m = 0) = decide ((dot (c.map (· % m)) p + d % m) % m = 0) := by
      rw [Int.add_emod (dot c p) d, Int.add_emod (dot (c.map (· % m)) p) (d % m), dot_mod, Int.emod_emod_of_dvd d (Int.dvd_refl m)]
    generalize gl m.toNat (c.map (· % m)) = h at *
    rw [dot_map (h : Int) _ p hA] at base
    generalize hv : dot (List.map (· / (h : Int)) (c.map (· % m))) p = v at base
    by_cases h1 : (d % m) % (h : Int) ≠ 0
    · rw [if_pos h1]
      simp only [rAt, imp_at]
      simp only [Ct.at_, Kd.holds]
      rw [base]
      symm
      refine decide_eq_false fun e => h1 ?_
      have e2 := Int.dvd_trans hD (Int.dvd_of_emod_eq_zero e)
      exact Int.emod_eq_zero_of_dvd ((Int.dvd_iff_dvd_of_dvd_add e2).mp ⟨v, rfl⟩)
    · rw [if_neg h1]
      have hr : (d % m) % (h : Int) = 0 := Classical.byContradiction h1
      have ed := Int.mul_ediv_cancel' (Int.dvd_of_emod_eq_zero hr)
      rw [← ed, ← Int.mul_add, div_mul m h hP hD] at base
      by_cases h2 : h = m.toNat
      · rw [if_pos h2]
        simp only [rAt, Ct.at_, Kd.holds]
        rw [base]
        have e1 : m / (h : Int) = 1 := by
          rw [h2, Int.toNat_of_nonneg (by omega)]
          exact Int.ediv_self (by omega)
        rw [e1]
        exact (decide_eq_true (Int.emod_one _)).symm
      · rw [if_neg h2]
        simp only [rAt, Ct.at_, Kd.holds]
        rw [base, hv]
theorem red_ok {t u : Ct} (ok : t.k.ok) (h : red t = some u) : u.k.ok ∧ u.c.length = t.c.length := by
  obtain ⟨k, c, d⟩ := t
  cases k with
  | ge =>
    simp only [red] at h
    split at h
    · cases h; exact ⟨trivial, List.length_map ..⟩
    · split at h
      · cases h
      · cases h; exact ⟨trivial, List.length_replicate ..⟩
  | eq =>
    simp only [red] at h
    split at h
    · cases h
    · split at h
      · cases h; exact ⟨trivial, List.length_replicate ..⟩
      · split at h
        · cases h; exact ⟨trivial, List.length_map ..⟩
        · cases h; exact ⟨trivial, by rw [List.length_map, List.length_map]⟩
  | div m =>
    have hm : 1 ≤ m := ok
    simp only [red] at h
    have hD := gl_toNat_dvd hm (c.map (· % m))
    have hP := gl_pos hm (c.map (· % m))
    generalize gl m.toNat (c.map (· % m)) = g at *
    split at h
    · cases h; exact ⟨trivial, List.length_replicate ..⟩
    · split at h
      · cases h
      · cases h
        refine ⟨?_, by rw [List.length_map, List.length_map]⟩
        show 1 ≤ m / (g : Int)
        obtain ⟨k, rfl⟩ := hD
        rw [Int.mul_ediv_cancel_left k (by omega)]
        rcases Int.lt_or_le k 1 with hk | hk
        · have : (g : Int) * k ≤ (g : Int) * 0 := Int.mul_le_mul_of_nonneg_left (by omega) (by omega)
          omega
        · exact hk
theorem gl_rep (n : Nat) : gl 0 (List.replicate n 0) = 0 := by
  induction n with
  | zero => rfl
  | succ n ih => rw [List.replicate_succ, gl]; exact ih
theorem red_imp (n : Nat) : red (imp n) = some (imp n) := by
  unfold imp
  simp only [red]
  rw [gl_rep]
  rw [if_neg (by decide), if_neg (by decide)]
  unfold imp
  rw [List.length_replicate]
theorem map_div1 (l : List Int) : l.map (· / ((1 : Nat) : Int)) = l := by
  induction l with
  | nil => rfl
  | cons x r ih => rw [List.map_cons, ih, show x / ((1 : Nat) : Int) = x from Int.ediv_one x]
theorem gl_neg : ∀ (l : List Int) (g : Nat), gl g (l.map (- ·)) = gl g l
  | [], _ => rfl
  | x :: r, g => by rw [List.map_cons, gl, gl, Int.natAbs_neg, gl_neg r]
theorem filter_neg : ∀ (l : List Int), ((l.map (- ·)).filter (· ≠ 0)).headD 0 = - ((l.filter (· ≠ 0)).headD 0)
  | [] => rfl
  | x :: r => by
    rw [List.map_cons, List.filter_cons, List.filter_cons]
    by_cases hx : x = 0
    · subst hx
      exact filter_neg r
    · rw [if_pos (decide_eq_true (show - x ≠ 0 by omega)), if_pos (decide_eq_true hx)]
      rfl
theorem filter_head : ∀ (l : List Int), (∃ x ∈ l, x ≠ 0) → (l.filter (· ≠ 0)).headD 0 ≠ 0
  | [], h => by obtain ⟨_, h, _⟩ := h; cases h
  | y :: r, h => by
    rw [List.filter_cons]
    by_cases hy : y = 0
    · subst hy
      obtain ⟨x, hx, n⟩ := h
      rcases List.mem_cons.mp hx with rfl | hx
      · exact absurd rfl n
      · exact filter_head r ⟨x, hx, n⟩
    · rw [if_pos (decide_eq_true hy)]
      exact hy
theorem gl_one_ne {l : List Int} (h : gl 0 l = 1) : ∃ x ∈ l, x ≠ 0 := by
  refine Classical.byContradiction fun z => ?_
  have : ∀ x ∈ l, x = 0 := fun x hx => Classical.byContradiction fun n => z ⟨x, hx, n⟩
  have h0 : (0 : Nat) ∣ gl 0 l := gl_great l 0 0 (Nat.dvd_refl 0) fun x hx => by rw [this x hx]; exact Int.dvd_refl 0
  rw [h] at h0
  have := Nat.eq_zero_of_zero_dvd h0
  omega
theorem red_idem {t u : Ct} (ok : t.k.ok) (h : red t = some u) : red u = some u := by
  obtain ⟨k, c, d⟩ := t
  cases k with
  | ge =>
    simp only [red] at h
    split at h
    · rename_i hg
      cases h
      have e := gl_div hg
      rw [Nat.zero_div] at e
      simp only [red]
      rw [e, if_pos (by decide), map_div1, show ∀ x : Int, x / ((1 : Nat) : Int) = x from Int.ediv_one]
    · split at h
      · cases h
      · cases h; exact red_imp _
  | eq =>
    simp only [red] at h
    split at h
    · cases h
    · split at h
      · cases h; exact red_imp _
      · rename_i h2
        have hg : 0 < gl 0 c := Nat.pos_of_ne_zero fun z => h2 (.inl z)
        have e := gl_div hg
        rw [Nat.zero_div] at e
        have d1 : ∀ x : Int, x / ((1 : Nat) : Int) = x := Int.ediv_one
        have m1 : ∀ x : Int, x % ((1 : Nat) : Int) = 0 := Int.emod_one
        split at h
        · rename_i hp
          cases h
          simp only [red]
          rw [e, if_neg (by omega), if_neg (by rw [m1]; rintro (z | z); exact absurd z (by decide); exact z rfl), map_div1, d1, if_pos hp]
        · rename_i hp
          cases h
          simp only [red]
          rw [gl_neg, e, if_neg (by omega), if_neg (by rw [m1]; rintro (z | z); exact absurd z (by decide); exact z rfl), map_div1, d1, filter_neg, if_pos ?_]
          have := filter_head _ (gl_one_ne e)
          omega
  | div m =>
    have hm : 1 ≤ m := ok
    simp only [red] at h
    have hD := gl_toNat_dvd hm (c.map (· % m))
    have hP := gl_pos hm (c.map (· % m))
    have hA := (gl_dvd (c.map (· % m)) m.toNat).2
    have e := gl_div hP
    split at h
    · cases h; exact red_imp _
    · rename_i h1
      have hr : (d % m) % ((gl m.toNat (c.map (· % m)) : Nat) : Int) = 0 := Classical.byContradiction h1
      split at h
      · cases h
      · rename_i h2
        cases h
        generalize hG : gl m.toNat (c.map (· % m)) = g at *
        have hgp : (0 : Int) < (g : Int) := by omega
        have key : ∀ x : Int, 0 ≤ x → x < m → (g : Int) ∣ x → x / (g : Int) % (m / (g : Int)) = x / (g : Int) := fun x x0 xm xd => by
          refine Int.emod_eq_of_lt (Int.ediv_nonneg x0 (by omega)) ?_
          obtain ⟨a, rfl⟩ := xd
          obtain ⟨b, rfl⟩ := hD
          rw [Int.mul_ediv_cancel_left a (by omega), Int.mul_ediv_cancel_left b (by omega)]
          exact Int.lt_of_mul_lt_mul_left xm (by omega)
        have mm : ∀ x : Int, 0 ≤ x % m ∧ x % m < m := fun x => ⟨Int.emod_nonneg _ (by omega), Int.emod_lt_of_pos _ (by omega)⟩
        have e1 : ((c.map (· % m)).map (· / (g : Int))).map (· % (m / (g : Int))) = (c.map (· % m)).map (· / (g : Int)) := by
          rw [List.map_map]
          refine List.map_congr_left fun x hx => ?_
          obtain ⟨y, _, rfl⟩ := List.mem_map.mp hx
          exact key _ (mm y).1 (mm y).2 (hA _ hx)
        have e2 := key _ (mm d).1 (mm d).2 (Int.dvd_of_emod_eq_zero hr)
        have e3 : (m / (g : Int)).toNat = m.toNat / g := by
          have : m = ((m.toNat : Nat) : Int) := (Int.toNat_of_nonneg (by omega)).symm
          rw [this, Int.toNat_natCast, ← Int.natCast_ediv, Int.toNat_natCast]
        simp only [red]
        rw [e1, e2, e3, e, if_neg (by rw [show ∀ x : Int, x % ((1 : Nat) : Int) = 0 from Int.emod_one]; exact fun z => z rfl), map_div1, if_neg ?_, show ∀ x : Int, x / ((1 : Nat) : Int) = x from Int.ediv_one, show ∀ x : Int, x / ((1 : Nat) : Int) = x from Int.ediv_one]
        intro z
        refine h2 ?_
        have hd : g ∣ m.toNat := by
          rw [← hG]
          exact (gl_dvd _ _).1
        have := Nat.div_mul_cancel hd
        rw [← z, Nat.one_mul] at this
        exact this
theorem gl_snoc (x : Int) : ∀ (l : List Int) (g : Nat), gl g (l ++ [x]) = Nat.gcd (gl g l) x.natAbs
  | [], _ => rfl
  | y :: r, g => by rw [List.cons_append, gl, gl, gl_snoc x r]
theorem imp_cs (n : Nat) : ∀ x ∈ (imp n).c, x = 0 := fun x hx => List.eq_of_mem_replicate hx
/-! ### constraints in memory -/
def Kd.v : Kd → Addr → List V
  | .ge, a => [.str "ge", .ref a]
  | .eq, a => [.str "eq", .ref a]
  | .div m, a => [.str "div", .int m, .ref a]
def Ct.e (t : Ct) : List Int := t.c ++ [t.d]
def CtT (K : PySem.W.Frag) (H : Hp) (x : Addr) (t : Ct) : Prop := ∃ a, SqT K H x (t.k.v a) ∧ SqT K H a (t.e.map V.int)
theorem CtT.same {K : PySem.W.Frag} {H H' : Hp} {x : Addr} {t : Ct} (h : CtT K H x t) (s : Same H H') : CtT K H' x t := let ⟨a, h1, h2⟩ := h; ⟨a, sameT s h1, sameT s h2⟩
theorem kv_last {k : Kd} {a : Addr} : atI (k.v a) (-1) = some (V.ref a) := by cases k <;> rfl
theorem e_last {t : Ct} : atI (t.e.map V.int) (-1) = some (V.int t.d) := atI_lastI
def ROp (K : PySem.W.Frag) (H : Hp) (v : V) (r : Option Ct) : Prop := match r with | none => v = .non | some u => ∃ x, v = .ref x ∧ CtT K H x u
/-- numbers that are not too great for // -/
def Nz (t : Ct) : Prop := t.c.length ≤ 90 ∧ (∀ x ∈ t.e, Sz 8000 x) ∧ match t.k with | .div m => Sz 8000 m | _ => True
theorem sz_gl {l : List Int} {g : Nat} {b : Nat} (hl : ∀ x ∈ l, Sz b x) (hg : Sz b (g : Int)) : Sz b ((gl g l : Nat) : Int) := by
  unfold Sz at *
  rw [Int.natAbs_natCast] at *
  have hp : 0 < 2 ^ b := Nat.pow_pos (by decide)
  have := gl_le (l := l) (g := g) (b := 2 ^ b - 1) (fun x hx => by have := hl x hx; omega) (by omega)
  omega
theorem sz_div {b : Nat} {x g : Int} (h : Sz b x) (hg : 0 < g) : Sz b (x / g) := by
  unfold Sz at *
  refine Nat.lt_of_le_of_lt (Int.natAbs_ediv_le_natAbs x g) h
theorem sz_mod {b : Nat} {x m : Int} (hm : 1 ≤ m) (h : Sz b m) : Sz b (x % m) := by
  unfold Sz at *
  have h1 := Int.emod_nonneg x (show m ≠ 0 by omega)
  have h2 := Int.emod_lt_of_pos x (show 0 < m by omega)
  omega
theorem cdivw {i g : Int} {b : Nat} (hg : 0 < g) (h : Sz b g) (h0 : 0 < b) (hb : b ≤ 9000) : CDivW i g := wide_div hg h h0 hb
theorem flt_ne (l : List Int) : l.filter (fun x => decide (x ≠ 0)) = l.filter (· ≠ 0) := rfl
theorem Nz.c {t : Ct} (h : Nz t) : ∀ x ∈ t.c, Sz 8000 x := fun x hx => h.2.1 x (List.mem_append_left _ hx)
theorem Nz.d {t : Ct} (h : Nz t) : Sz 8000 t.d := h.2.1 _ (List.mem_append_right _ (List.mem_singleton.mpr rfl))
theorem Nz.len {t : Ct} (h : Nz t) : t.e.length ≤ 91 := by
  show (t.c ++ [t.d]).length ≤ 91
  rw [List.length_append, List.length_singleton]
  have := h.1
  omega
theorem e_len (t : Ct) : (t.e.map V.int).length = t.c.length + 1 := by
  rw [List.length_map, Ct.e, List.length_append, List.length_singleton]
/-- a new constraint -/
theorem ct_new {K : PySem.W.Frag} {H0 H : Hp} {p a : Addr} {k : Kd} {t : Ct} (s : Same H0 H) (np : H p = none) (ha : SqT K H a (t.e.map V.int)) (hk : t.k = k) : Same H0 (upd H p (.tup (k.v a))) ∧ CtT K (upd H p (.tup (k.v a))) p t :=
  ⟨s.trans (same_upd np), a, by rw [hk]; exact SqT.of upd_same, sameT (same_upd np) ha⟩
theorem e_map (f : Int → Int) (t : Ct) (k : Kd) : t.e.map f = (Ct.mk k (t.c.map f) (f t.d)).e := by
  rw [Ct.e, List.map_append]
  rfl
theorem sz_one (a : Nat) (h : 1 ≤ a) : Sz a (-1) := by
  unfold Sz
  exact Nat.one_lt_two_pow (by omega)
theorem sz_neg {a : Nat} {x : Int} (h : Sz a x) : Sz a (-x) := by
  unfold Sz at *
  rw [Int.natAbs_neg]
  exact h
theorem red_all {b : Nat} (hb : 1 ≤ b) {t u : Ct} (ok : t.k.ok) (h : red t = some u) (hc : ∀ x ∈ t.c, Sz b x) (hd : Sz b t.d) (hm : match t.k with | .div m => Sz b m | _ => True) :
    (∀ x ∈ u.c, Sz b x) ∧ Sz b u.d ∧ match u.k with | .div m => Sz b m | _ => True := by
  obtain ⟨k, c, d⟩ := t
  have hi : (∀ x ∈ (imp c.length).c, Sz b x) ∧ Sz b (imp c.length).d ∧ match (imp c.length).k with | .div m => Sz b m | _ => True := ⟨fun x hx => by rw [imp_cs _ x hx]; exact Sz.zero _, sz_one b hb, trivial⟩
  cases k with
  | ge =>
    simp only [red] at h
    split at h
    · cases h
      refine ⟨fun x hx => ?_, sz_div hd (by omega), trivial⟩
      obtain ⟨y, hy, rfl⟩ := List.mem_map.mp hx
      exact sz_div (hc y hy) (by omega)
    · split at h
      · cases h
      · cases h; exact hi
  | eq =>
    simp only [red] at h
    split at h
    · cases h
    · split at h
      · cases h; exact hi
      · rename_i h2
        have hg : 0 < gl 0 c := Nat.pos_of_ne_zero fun z => h2 (.inl z)
        have hcs : ∀ x ∈ c.map (· / (gl 0 c : Int)), Sz b x := fun x hx => by
          obtain ⟨y, hy, rfl⟩ := List.mem_map.mp hx
          exact sz_div (hc y hy) (by omega)
        split at h
        · cases h
          exact ⟨hcs, sz_div hd (by omega), trivial⟩
        · cases h
          refine ⟨fun x hx => ?_, sz_neg (sz_div hd (by omega)), trivial⟩
          obtain ⟨y, hy, rfl⟩ := List.mem_map.mp hx
          exact sz_neg (hcs y hy)
  | div m =>
    have hm1 : 1 ≤ m := ok
    have hP := gl_pos hm1 (c.map (· % m))
    simp only [red] at h
    split at h
    · cases h; exact hi
    · split at h
      · cases h
      · cases h
        refine ⟨fun x hx => ?_, sz_div (sz_mod hm1 hm) (by omega), sz_div (b := b) hm (by omega)⟩
        obtain ⟨y, hy, rfl⟩ := List.mem_map.mp hx
        obtain ⟨z, hz, rfl⟩ := List.mem_map.mp hy
        exact sz_div (sz_mod hm1 hm) (by omega)
def dotk (c p : List Int) : Nat → Int
  | 0 => 0
  | i + 1 => dotk c p i + c.getD i 0 * p.getD i 0
theorem dotk_cons (a b : Int) (c p : List Int) : ∀ i, dotk (a :: c) (b :: p) (i + 1) = a * b + dotk c p i
  | 0 => by simp [dotk]
  | i + 1 => by
    rw [dotk, dotk_cons a b c p i, dotk]
    simp only [List.getD_cons_succ]
    omega
theorem dotk_eq : ∀ (c p : List Int), c.length = p.length → dotk c p p.length = dot c p
  | [], [], _ => rfl
  | a :: c, b :: p, h => by
    rw [List.length_cons, dotk_cons, dotk_eq c p (by simpa using h), dot]
theorem sum_range : ∀ (f : Nat → Int) (n : Nat) (c p : List Int), (∀ i, f i = c.getD i 0 * p.getD i 0) → ((List.range n).map f).sum = dotk c p n
  | f, 0, c, p, h => rfl
  | f, n + 1, c, p, h => by
    rw [List.range_succ, List.map_append, List.sum_append, sum_range f n c p h]
    simp [dotk, h]
theorem getE {c : List Int} {d : Int} {i : Nat} (h : i < c.length) : ((c ++ [d]).map V.int)[i]? = some (V.int (c.getD i 0)) := by
  rw [List.getElem?_map, List.getElem?_append_left h, List.getElem?_eq_getElem h, List.getD_eq_getElem?_getD, List.getElem?_eq_getElem h]
  rfl
theorem getP {p : List Int} {i : Nat} (h : i < p.length) : (p.map V.int)[i]? = some (V.int (p.getD i 0)) := by
  rw [List.getElem?_map, List.getElem?_eq_getElem h, List.getD_eq_getElem?_getD, List.getElem?_eq_getElem h]
  rfl
theorem memD {p : List Int} {i : Nat} (h : i < p.length) : p.getD i 0 ∈ p := by
  rw [List.getD_eq_getElem?_getD, List.getElem?_eq_getElem h]
  exact List.getElem_mem h
theorem dot_sz {a b : Nat} : ∀ (c p : List Int), (∀ x ∈ c, Sz a x) → (∀ y ∈ p, Sz b y) → Sz (a + b + c.length) (dot c p)
  | [], _, _, _ => Sz.zero _
  | _ :: _, [], _, _ => Sz.zero _
  | x :: c, y :: p, h, k => by
    rw [dot]
    have h1 := (h x List.mem_cons_self).mul (k y List.mem_cons_self)
    have h2 := dot_sz c p (fun z hz => h z (List.mem_cons_of_mem _ hz)) (fun z hz => k z (List.mem_cons_of_mem _ hz))
    exact (h1.mono (Nat.le_add_right _ c.length)).add h2
theorem s_ge_eq : (Str.ofString "ge" = Str.ofString "eq") = False := eq_false (by decide +kernel)
theorem s_ge_div : (Str.ofString "ge" = Str.ofString "div") = False := eq_false (by decide +kernel)
theorem s_eq_ge : (Str.ofString "eq" = Str.ofString "ge") = False := eq_false (by decide +kernel)
theorem s_eq_div : (Str.ofString "eq" = Str.ofString "div") = False := eq_false (by decide +kernel)
theorem s_div_ge : (Str.ofString "div" = Str.ofString "ge") = False := eq_false (by decide +kernel)
theorem s_div_eq : (Str.ofString "div" = Str.ofString "eq") = False := eq_false (by decide +kernel)
section
variable {w : World} {K : PySem.W.Frag} {mg : Str → Option Value} {base : Heap} {A : Ad}
def sp_impossible (K : PySem.W.Frag) : Sp := fun vs H Q _ => ∃ n : Nat, vs = [.int (n : Int)] ∧ n ≤ 90 ∧ ∀ H' x, Same H H' → CtT K H' x (imp n) → Q (.ref x) H'
def sp_common_divisor (K : PySem.W.Frag) : Sp := fun vs H Q _ => ∃ (g : Int) (a : Addr) (c : List Int), vs = [.int g, .ref a] ∧ 0 ≤ g ∧ SqT K H a (c.map V.int) ∧ Q (.int ((gl g.toNat c : Nat) : Int)) H
def sp_divided (K : PySem.W.Frag) : Sp := fun vs H Q _ => ∃ (a : Addr) (e : List Int) (g : Int), vs = [.ref a, .int g] ∧ SqT K H a (e.map V.int) ∧ 0 < g ∧ Sz 8500 g ∧ e.length ≤ 100 ∧ ∀ H' t, Same H H' → SqT K H' t ((e.map (· / g)).map V.int) → Q (.ref t) H'
def sp_reduced_inequality (K : PySem.W.Frag) : Sp := fun vs H Q _ => ∃ (a : Addr) (t : Ct), vs = [.int ((gl 0 t.c : Nat) : Int), .ref a] ∧ SqT K H a (t.e.map V.int) ∧ t.k = .ge ∧ Nz t ∧ ∀ H' v, Same H H' → ROp K H' v (red t) → Q v H'
def sp_reduced_equation (K : PySem.W.Frag) : Sp := fun vs H Q _ => ∃ (a : Addr) (t : Ct), vs = [.int ((gl 0 t.c : Nat) : Int), .ref a] ∧ SqT K H a (t.e.map V.int) ∧ t.k = .eq ∧ Nz t ∧ ∀ H' v, Same H H' → ROp K H' v (red t) → Q v H'
def sp_reduced_multiple (K : PySem.W.Frag) : Sp := fun vs H Q _ => ∃ (m : Int) (a : Addr) (t : Ct), vs = [.int m, .ref a] ∧ SqT K H a (t.e.map V.int) ∧ t.k = .div m ∧ 1 ≤ m ∧ Nz t ∧ ∀ H' v, Same H H' → ROp K H' v (red t) → Q v H'
def sp_reduced_constraint (K : PySem.W.Frag) : Sp := fun vs H Q _ => ∃ (x : Addr) (t : Ct), vs = [.ref x] ∧ CtT K H x t ∧ t.k.ok ∧ Nz t ∧ ∀ H' v, Same H H' → ROp K H' v (red t) → Q v H'
theorem ok_impossible (T : Txt K mg A) : FnOk P w K mg base CX0 1 A.f_impossible A.d_impossible ["variables"] (sp_impossible K) := by
  refine T.F_impossible.ok sc_impossible (fun vs H Q E h => ?_) (fun cdv A' outer s H vs Q E hr h => ?_)
  · obtain ⟨n, rfl, _⟩ := h
    rfl
  · obtain ⟨n, rfl, hn, q⟩ := h
    refine ⟨_, (pss_one (ps_ret (pe_tup (pa_cons pe_str (pa_cons (pe_op op_catA (pe_op op_repA (pe_tup (pa_cons pe_int pa_nil)) (pv 0)) (pe_tup (pa_cons (pe_un un_neg pe_int) pa_nil))) pa_nil))))), ?_⟩
    walk_at "wp"
    refine ⟨by decide, fun p np => ⟨p, n, [V.int 0], rfl, rfl, SqT.of upd_same, by simp, by omega, by simp, fun H1 r s1 h1 => ?_⟩⟩
    refine ⟨by decide, fun p2 n2 => cat_sm (sameT (same_upd n2) h1) (SqT.of upd_same) (by simp; omega) fun H3 p3 s3 h3 => ?_⟩
    refine ⟨by decide, fun p4 n4 => ?_⟩
    have e : (List.replicate n [V.int 0]).flatten ++ [V.int (-1)] = (imp n).e.map V.int := by
      rw [Ct.e, imp, List.map_append, List.map_replicate]
      simp
    rw [e] at h3
    have r4 := ct_new (k := .ge) (t := imp n) ((((same_upd np).trans s1).trans (same_upd n2)).trans s3) n4 h3 rfl
    exact q _ _ r4.1 r4.2
theorem ok_common_divisor (T : Txt K mg A) : FnOk P w K mg base CX0 1 A.f_common_divisor A.d_common_divisor ["first", "numbers"] (sp_common_divisor K) := by
  refine T.F_common_divisor.ok sc_common_divisor (fun vs H Q E h => ?_) (fun cdv A' outer s H vs Q E hr h => ?_)
  · obtain ⟨g, a, c, rfl, _⟩ := h
    rfl
  · obtain ⟨g, a, c, rfl, hg, hC, q⟩ := h
    refine ⟨_, (pss_cons (ps_set (i := 2) sc_common_divisor.nd rfl (Or.inl rfl) (pv 0)) 
    (pss_cons (ps_for PassesOwn.never rfl (pi_tup (pv 1)) (pg_name (i := 3) sc_common_divisor.nd rfl (Or.inl rfl)) 
      (pss_one (ps_set (i := 2) sc_common_divisor.nd rfl (Or.inl rfl) (pe_callBfun cr_gcd (by rfl) T.u_gcd (pa_cons (pv 2) (pa_cons (pv 3) pa_nil)))))) 
    (pss_one (ps_ret (pv 2))))), ?_⟩
    walk_at "wp"
    refine ⟨⟨_, hC⟩, ?_⟩
    refine loop_it (walk_tup (xs := c.map V.int)) (fun i σ H' => H' = H ∧ ∃ v, σ = [some (V.int g), some (V.ref a), some (V.int ((gl g.toNat (c.take i) : Nat) : Int)), v]) ⟨rfl, _, by rw [List.take_zero, gl, Int.toNat_of_nonneg hg]⟩ (fun _ _ _ _ p => by rw [p.1]; exact hC) ?_ ?_
    · rintro i x σ H1 H2 hi ⟨rfl, v, rfl⟩ y
      obtain ⟨rfl, e⟩ := yat_at y
      rw [List.length_map] at hi
      rw [List.getElem?_map, List.getElem?_eq_getElem hi] at e
      cases e
      walk_at "wp"
      refine ⟨?_, _, rfl⟩
      rw [List.take_succ_eq_append_getElem hi, gl_snoc, Int.natAbs_natCast]
    · rintro σ H1 ⟨rfl, v, rfl⟩
      rw [List.length_map, List.take_length]
      walk_at "wp"
      exact q
theorem ok_divided (T : Txt K mg A) : FnOk P w K mg base CX0 1 A.f_divided A.d_divided ["expression", "divisor"] (sp_divided K) := by
  refine T.F_divided.ok sc_divided (fun vs H Q E h => ?_) (fun cdv A' outer s H vs Q E hr h => ?_)
  · obtain ⟨a, e, g, rfl, _⟩ := h
    rfl
  · obtain ⟨a, e, g, rfl, hE, hg, hz, hn, q⟩ := h
    refine ⟨_, (pss_one (ps_ret (pe_callTy call_tuple_of (by rfl) T.b_tuple (by decide +kernel) (pa_cons (pe_lc (own := [("number", 2)]) (by rfl) sc_divided.nd (pi_tup (pv 0)) (blkOk_by (own := [("number", 2)]) (N := ["expression", "divisor", "number"]) (sc := defScope s_divided) (by decide +kernel)) (fun _ _ _ _ _ => (pg_name (i := 2) sc_divided.nd rfl (Or.inl rfl) (Or.inr rfl))) (fun _ _ _ _ _ => pts_nil) (fun _ _ _ _ _ => (pe_op op_fdivW (pv 2) (pv 1)))) pa_nil)))), ?_⟩
    walk_at "wp"
    refine ⟨⟨_, hE⟩, fun D hD => lc_tupI (· / g) hE hD (by omega) (fun x H' R hx s1 k => ?_) (fun H' s' e' => ?_)⟩
    · walk_at "wp"
      exact ⟨cdivw hg hz (by decide) (by decide), k _ (Same.refl _)⟩
    · exact ⟨_, .inl ⟨SqL.of e', fun t nt => q _ _ (same_upd2 s' (s'.free nt)) (SqT.of upd_same)⟩⟩
theorem ok_reduced_inequality (T : Txt K mg A) : FnOk P w K mg base CX0 2 A.f_reduced_inequality A.d_reduced_inequality ["divisor", "expression"] (sp_reduced_inequality K) := by
  have G_impossible := ok_impossible (w := w) (base := base) T
  have G_divided := ok_divided (w := w) (base := base) T
  refine T.F_reduced_inequality.ok sc_reduced_inequality (fun vs H Q E h => ?_) (fun cdv A' outer s H vs Q E hr h => ?_)
  · obtain ⟨a, t, rfl, _⟩ := h
    rfl
  · obtain ⟨a, t, rfl, hE, hk, hz, q⟩ := h
    refine ⟨_, (pss_cons (ps_if (pt_cmpR op_gt (pv 0) pe_int (nomark _)) 
      (pss_one (ps_ret (pe_tup (pa_cons pe_str (pa_cons (pe_call G_divided hr (by rfl) T.g_divided T.F_divided.kp T.B_divided .nil pass0 (pa_cons (pv 1) (pa_cons (pv 0) pa_nil))) pa_nil))))) pss_nil) 
    (pss_one (ps_ret (pe_ifExp (pt_cmpR op_ge (pe_ix ix_tup (pv 1) (pe_un un_neg pe_int) (fun _ _ => rfl)) pe_int (nomark _)) pe_non (pe_call G_impossible hr (by rfl) T.g_impossible T.F_impossible.kp T.B_impossible .nil pass0 (pa_cons (pe_op op_sub (pe_callB call_len_seq (by rfl) T.b_len (by decide +kernel) (pa_cons (pv 1) pa_nil)) pe_int) pa_nil)))))), ?_⟩
    walk_at "wp"
    obtain ⟨k, c, d⟩ := t
    cases hk
    simp only [red] at q
    try dsimp only
    by_cases hg : 0 < gl 0 c
    · rw [if_pos hg] at q
      rw [if_pos (decide_eq_true (by omega))]
      refine ⟨a, _, _, rfl, hE, by omega, (sz_gl hz.c (Sz.zero _)).mono (by decide), Nat.le_trans hz.len (by decide), fun H1 r s1 h1 => ⟨by decide, fun p np => ?_⟩⟩
      rw [e_map _ _ .ge] at h1
      have r4 := ct_new (k := .ge) s1 np h1 rfl
      exact q _ _ r4.1 ⟨_, rfl, r4.2⟩
    · rw [if_neg hg] at q
      rw [if_neg (by rw [decide_eq_true_eq]; omega)]
      refine ⟨_, hE, _, e_last, _, rfl, ?_⟩
      by_cases h0 : 0 ≤ d
      · rw [if_pos h0] at q
        rw [if_pos (decide_eq_true h0)]
        exact q _ _ (Same.refl _) rfl
      · rw [if_neg h0] at q
        rw [if_neg (by rw [decide_eq_true_eq]; exact h0)]
        refine ⟨_, .inr hE, c.length, by rw [e_len]; dsimp only; congr 2; omega, hz.1, fun H1 x s1 h1 => q _ _ s1 ⟨_, rfl, h1⟩⟩
theorem ok_reduced_equation (T : Txt K mg A) : FnOk P w K mg base CX0 2 A.f_reduced_equation A.d_reduced_equation ["divisor", "expression"] (sp_reduced_equation K) := by
  have G_divided := ok_divided (w := w) (base := base) T
  have G_impossible := ok_impossible (w := w) (base := base) T
  refine T.F_reduced_equation.ok sc_reduced_equation (fun vs H Q E h => ?_) (fun cdv A' outer s H vs Q E hr h => ?_)
  · obtain ⟨a, t, rfl, _⟩ := h
    rfl
  · obtain ⟨a, t, rfl, hE, hk, hz, q⟩ := h
    obtain ⟨k, c, d⟩ := t
    cases hk
    simp only [red] at q
    have imp_ : ∀ {E0 : XK}, (∀ u : Ct, u = imp c.length → ∀ H' v, Same H H' → ROp K H' v (some u) → Q v H') → ∃ x, (SqL K H a x ∨ SqT K H a x) ∧ sp_impossible K [V.int ((x.length : Int) - 1)] H Q E0 := fun qq =>
      ⟨_, .inr hE, c.length, by rw [e_len]; dsimp only; congr 2; omega, hz.1, fun H2 x s2 h2 => qq _ rfl _ _ s2 ⟨_, rfl, h2⟩⟩
    have ⟨R, hR, kR⟩ : ∃ R, PSs (cxOf CX0 P w K mg base ["divisor", "expression", "numbers", "leading", "number"] "reduced_equation" (defScope s_reduced_equation) A.f_reduced_equation cdv A' outer s H E).nox ((defBody s_reduced_equation).drop 1) R ∧
        (¬ (gl 0 c = 0 ∧ d = 0) → R { nx := fun _ H' => Q .non H', rt := Q } [some (V.int ((gl 0 c : Nat) : Int)), some (V.ref a), none, none, none] H) := by
      refine ⟨_, (pss_cons (ps_if (PW.pt (pw_or (pt_cmpR op_eq (pv 0) pe_int (nomark _)) (pw_or1 (pt_cmpR op_ne (pe_op op_mod (pe_ix ix_tup (pv 1) (pe_un un_neg pe_int) (fun _ _ => rfl)) (pv 0)) pe_int (nomark _))))) 
      (pss_one (ps_ret (pe_call G_impossible hr (by rfl) T.g_impossible T.F_impossible.kp T.B_impossible .nil pass0 (pa_cons (pe_op op_sub (pe_callB call_len_seq (by rfl) T.b_len (by decide +kernel) (pa_cons (pv 1) pa_nil)) pe_int) pa_nil)))) pss_nil) 
    (pss_cons (ps_set (i := 2) sc_reduced_equation.nd rfl (Or.inl rfl) (pe_call G_divided hr (by rfl) T.g_divided T.F_divided.kp T.B_divided .nil pass0 (pa_cons (pv 1) (pa_cons (pv 0) pa_nil)))) 
    (pss_cons (ps_set (i := 3) sc_reduced_equation.nd rfl (Or.inl rfl) (pe_ix ix_list (pe_lc (own := [("number", 4)]) (by rfl) sc_reduced_equation.nd (pi_tup (pe_slice sl_tupA (pv 2) po_none (po_some (pe_un un_neg pe_int)))) (blkOk_by (own := [("number", 4)]) (N := ["divisor", "expression", "numbers", "leading", "number"]) (sc := defScope s_reduced_equation) (by decide +kernel)) (fun _ _ _ _ _ => (pg_name (i := 4) sc_reduced_equation.nd rfl (Or.inl rfl) (Or.inr rfl))) (fun _ _ _ _ _ => pts_one (pt_cmpR op_ne (pv 4) pe_int (nomark _))) (fun _ _ _ _ _ => (pv 4))) pe_int (fun _ _ => rfl))) 
    (pss_one (ps_ret (pe_tup (pa_cons pe_str (pa_cons (pe_ifExp (pt_cmpR op_gt (pv 3) pe_int (nomark _)) (pv 2) (pe_callTy call_tuple_of (by rfl) T.b_tuple (by decide +kernel) (pa_cons (pe_lc (own := [("number", 4)]) (by rfl) sc_reduced_equation.nd (pi_tup (pv 2)) (blkOk_by (own := [("number", 4)]) (N := ["divisor", "expression", "numbers", "leading", "number"]) (sc := defScope s_reduced_equation) (by decide +kernel)) (fun _ _ _ _ _ => (pg_name (i := 4) sc_reduced_equation.nd rfl (Or.inl rfl) (Or.inr rfl))) (fun _ _ _ _ _ => pts_nil) (fun _ _ _ _ _ => (pe_un un_neg (pv 4)))) pa_nil))) pa_nil)))))))), fun h1 => ?_⟩
      rw [if_neg h1] at q
      walk_at "wp"
      by_cases hg : gl 0 c = 0
      · rw [if_pos (.inl hg)] at q
        rw [if_pos (decide_eq_true (by omega))]
        exact imp_ fun u e => e ▸ q
      · have hz8 : Sz 8000 ((gl 0 c : Nat) : Int) := sz_gl hz.c (Sz.zero _)
        have hone := gl_div (Nat.pos_of_ne_zero hg)
        rw [Nat.zero_div] at hone
        generalize gl 0 c = g at *
        rw [if_neg (by rw [decide_eq_true_eq]; omega)]
        refine ⟨_, hE, _, e_last, _, rfl, by omega, ?_⟩
        dsimp only
        by_cases hr : d % (g : Int) = 0
        · rw [if_neg (by rintro (z | z); exact hg z; exact z hr)] at q
          rw [if_neg (by rw [decide_eq_true hr]; decide)]
          refine ⟨a, _, (g : Int), rfl, hE, by omega, hz8.mono (by decide), Nat.le_trans hz.len (by decide), fun H1 r s1 h1 => ?_⟩
          rw [e_map _ _ .eq] at h1
          dsimp only at h1
          generalize hns : c.map (· / (g : Int)) = ns at *
          have hl : ns.length ≤ 90 := by rw [← hns, List.length_map]; exact hz.1
          have h1' := h1
          rw [Ct.e, List.map_append] at h1'
          refine sl_init h1' fun H2 p s2 hp => ⟨p, rfl, ⟨_, hp⟩, fun D hD => ?_⟩
          refine lc_tupIF (fun x => decide (x ≠ 0)) hp hD (show ns.length ≤ 1000000 by omega) (fun x H' N R hx s3 k1 k2 => ?_) (fun H' s' e' => ?_)
          · walk_at "wp"
            by_cases hx0 : x = 0
            · rw [if_neg (by rw [decide_eq_true hx0]; decide)]
              exact k1 (decide_eq_false (fun z => z hx0)) _ (Same.refl _)
            · rw [if_pos (by rw [decide_eq_false hx0]; rfl)]
              exact k2 (decide_eq_true hx0) _ (Same.refl _)
          · obtain ⟨x, r', ex⟩ : ∃ x r', ns.filter (fun x => decide (x ≠ 0)) = x :: r' := by
              cases hf : ns.filter (fun x => decide (x ≠ 0)) with
              | nil => exact absurd (by rw [hf]; rfl) (filter_head ns (gl_one_ne hone))
              | cons x r' => exact ⟨x, r', rfl⟩
            have q2 : (if 0 < x then some (Ct.mk .eq ns (d / (g : Int))) else some (Ct.mk .eq (ns.map (- ·)) (-(d / (g : Int))))) = (if 0 < ((ns.filter (fun x => decide (x ≠ 0))).headD 0) then some (Ct.mk .eq ns (d / (g : Int))) else some (Ct.mk .eq (ns.map (- ·)) (-(d / (g : Int))))) := by rw [ex]; rfl
            rw [← q2] at q
            rw [ex] at e'
            have sA := (s1.trans s2).trans s'
            refine ⟨_, SqL.of e', V.int x, atI_nat (j := 0) rfl, x, rfl, ?_⟩
            by_cases hx : 0 < x
            · rw [if_pos hx] at q
              rw [if_pos (decide_eq_true hx)]
              refine ⟨by decide, fun p4 n4 => ?_⟩
              have r4 := ct_new (k := .eq) sA n4 (sameT (s2.trans s') h1) rfl
              exact q _ _ r4.1 ⟨_, rfl, r4.2⟩
            · rw [if_neg hx] at q
              rw [if_neg (by rw [decide_eq_true_eq]; exact hx)]
              have h5 := sameT (s2.trans s') h1
              refine ⟨_, rfl, ⟨_, h5⟩, fun D2 hD2 => lc_tupI (- ·) h5 hD2 (by rw [Ct.e, List.length_append, List.length_singleton]; show ns.length + 1 ≤ 1000000; omega) (fun x H' R hx s3 k1 => ?_) (fun H7 s7 e7 => ?_)⟩
              · walk_at "wp"
                exact k1 _ (Same.refl _)
              · refine ⟨_, .inl ⟨SqL.of e7, fun l nl => ⟨by decide, fun p4 n4 => ?_⟩⟩⟩
                rw [e_map _ _ .eq] at n4
                dsimp only at n4
                have r4 := ct_new (K := K) (k := .eq) (t := ⟨.eq, ns.map (- ·), -(d / (g : Int))⟩) ((sA.trans s7).trans (same_upd nl)) n4 (SqT.of upd_same) rfl
                rw [e_map _ _ .eq]
                exact q _ _ r4.1 ⟨_, rfl, r4.2⟩
        · rw [if_pos (.inr hr)] at q
          rw [if_pos (by rw [decide_eq_false hr]; rfl)]
          exact imp_ fun u e => e ▸ q
    refine ⟨_, (pss_cons (ps_if (PW.pt (pw_and (pt_cmpR op_eq (pv 0) pe_int (nomark _)) (pw_and1 (pt_cmpR op_eq (pe_ix ix_tup (pv 1) (pe_un un_neg pe_int) (fun _ _ => rfl)) pe_int (nomark _))))) 
      (pss_one (ps_ret pe_non)) pss_nil) hR), ?_⟩
    walk_at "wp"
    try dsimp only
    by_cases hg : gl 0 c = 0
    · rw [if_pos (decide_eq_true (by omega))]
      refine ⟨_, hE, _, e_last, rfl, ?_⟩
      walk_at "wp"
      try dsimp only
      by_cases hd : d = 0
      · rw [if_pos ⟨hg, hd⟩] at q
        rw [if_pos (decide_eq_true hd)]
        exact q _ _ (Same.refl _) rfl
      · rw [if_neg (by rw [decide_eq_true_eq]; exact hd)]
        exact kR fun z => hd z.2
    · rw [if_neg (by rw [decide_eq_true_eq]; omega)]
      exact kR fun z => hg z.1
theorem ok_reduced_multiple (T : Txt K mg A) : FnOk P w K mg base CX0 2 A.f_reduced_multiple A.d_reduced_multiple ["m", "expression"] (sp_reduced_multiple K) := by
  have G_common_divisor := ok_common_divisor (w := w) (base := base) T
  have G_impossible := ok_impossible (w := w) (base := base) T
  have G_divided := ok_divided (w := w) (base := base) T
  refine T.F_reduced_multiple.ok sc_reduced_multiple (fun vs H Q E h => ?_) (fun cdv A' outer s H vs Q E hr h => ?_)
  · obtain ⟨m, a, t, rfl, _⟩ := h
    rfl
  · obtain ⟨m, a, t, rfl, hE, hk, hm, hz, q⟩ := h
    refine ⟨_, (pss_cons (ps_set (i := 2) sc_reduced_multiple.nd rfl (Or.inl rfl) (pe_callTy call_tuple_of (by rfl) T.b_tuple (by decide +kernel) (pa_cons (pe_lc (own := [("number", 3)]) (by rfl) sc_reduced_multiple.nd (pi_tup (pv 1)) (blkOk_by (own := [("number", 3)]) (N := ["m", "expression", "numbers", "number", "divisor"]) (sc := defScope s_reduced_multiple) (by decide +kernel)) (fun _ _ _ _ _ => (pg_name (i := 3) sc_reduced_multiple.nd rfl (Or.inl rfl) (Or.inr rfl))) (fun _ _ _ _ _ => pts_nil) (fun _ _ _ _ _ => (pe_op op_mod (pv 3) (pv 0)))) pa_nil))) 
    (pss_cons (ps_set (i := 4) sc_reduced_multiple.nd rfl (Or.inl rfl) (pe_call G_common_divisor hr (by rfl) T.g_common_divisor T.F_common_divisor.kp T.B_common_divisor .nil pass0 (pa_cons (pv 0) (pa_cons (pe_slice sl_tupA (pv 2) po_none (po_some (pe_un un_neg pe_int))) pa_nil)))) 
    (pss_cons (ps_if (pt_cmpR op_ne (pe_op op_mod (pe_ix ix_tup (pv 2) (pe_un un_neg pe_int) (fun _ _ => rfl)) (pv 4)) pe_int (nomark _)) 
      (pss_one (ps_ret (pe_call G_impossible hr (by rfl) T.g_impossible T.F_impossible.kp T.B_impossible .nil pass0 (pa_cons (pe_op op_sub (pe_callB call_len_seq (by rfl) T.b_len (by decide +kernel) (pa_cons (pv 1) pa_nil)) pe_int) pa_nil)))) pss_nil) 
    (pss_one (ps_ret (pe_ifExp (pt_cmpR op_eq (pv 4) (pv 0) (nomark _)) pe_non (pe_tup (pa_cons pe_str (pa_cons (pe_op op_fdivW (pv 0) (pv 4)) (pa_cons (pe_call G_divided hr (by rfl) T.g_divided T.F_divided.kp T.B_divided .nil pass0 (pa_cons (pv 2) (pa_cons (pv 4) pa_nil))) pa_nil)))))))))), ?_⟩
    walk_at "wp"
    obtain ⟨k, c, d⟩ := t
    cases hk
    simp only [red] at q
    try dsimp only
    refine ⟨⟨_, hE⟩, fun D hD => lc_tupI (· % m) hE hD (Nat.le_trans hz.len (by decide)) (fun x H' R hx s1 k => ?_) (fun H' s' e' => ?_)⟩
    · walk_at "wp"
      exact ⟨by omega, k _ (Same.refl _)⟩
    · have hP := gl_pos hm (c.map (· % m))
      have hG : Sz 8000 ((gl m.toNat (c.map (· % m)) : Nat) : Int) := sz_gl (fun x hx => by
        obtain ⟨y, _, rfl⟩ := List.mem_map.mp hx
        exact sz_mod hm hz.2.2) (by rw [Int.toNat_of_nonneg (by omega)]; exact hz.2.2)
      have e0 : ((Ct.mk (.div m) c d).e.map (· % m)).map V.int = ((c.map (· % m)).map V.int) ++ [V.int (d % m)] := by
        rw [Ct.e, List.map_append, List.map_append]
        rfl
      rw [e0] at e'
      refine ⟨_, .inl ⟨SqL.of e', fun l nl => ?_⟩⟩
      have sl := s'.trans (same_upd (o := .tup ((c.map (· % m)).map V.int ++ [V.int (d % m)])) nl)
      refine sl_init (SqT.of upd_same) fun H1 p s1 hp => ⟨m, p, _, rfl, by omega, hp, ?_⟩
      have hl := sameT (K := K) s1 (SqT.of upd_same)
      have sl1 := sl.trans s1
      have nl0 : (c.map (· % m)).length ≤ 90 := by rw [List.length_map]; exact hz.1
      generalize c.map (· % m) = ns at *
      generalize gl m.toNat ns = g at *
      refine ⟨_, hl, _, atI_last _ _, _, rfl, _, rfl, by omega, ?_⟩
      by_cases h1 : d % m % (g : Int) = 0
      · rw [if_neg (fun z => z h1)] at q
        rw [if_neg (by rw [decide_eq_true h1]; decide)]
        refine ⟨rfl, ?_⟩
        walk_at "wp"
        by_cases h2 : g = m.toNat
        · rw [if_pos h2] at q
          rw [if_pos (decide_eq_true (by omega))]
          exact q _ _ sl1 rfl
        · rw [if_neg h2] at q
          rw [if_neg (by rw [decide_eq_true_eq]; omega)]
          refine ⟨cdivw (by omega) hG (by decide) (by decide), l, ns ++ [d % m], (g : Int), rfl, by rw [List.map_append]; exact hl, by omega, hG.mono (by decide), ?_, fun H2 r s2 h2 => ⟨by decide, fun p np => ?_⟩⟩
          · rw [List.length_append, List.length_singleton]
            omega
          · have r4 := ct_new (k := .div (m / (g : Int))) (sl1.trans s2) np (t := ⟨.div (m / (g : Int)), ns.map (· / (g : Int)), d % m / (g : Int)⟩) (by rw [List.map_append] at h2; exact h2) rfl
            exact q _ _ r4.1 ⟨_, rfl, r4.2⟩
      · rw [if_pos h1] at q
        rw [if_pos (by rw [decide_eq_false h1]; rfl)]
        refine ⟨_, .inr (sameT sl1 hE), c.length, by rw [e_len]; dsimp only; congr 2; omega, hz.1, fun H2 x s2 h2 => q _ _ (sl1.trans s2) ⟨_, rfl, h2⟩⟩
theorem ok_reduced_constraint (T : Txt K mg A) : FnOk P w K mg base CX0 3 A.f_reduced_constraint A.d_reduced_constraint ["constraint"] (sp_reduced_constraint K) := by
  have G_common_divisor := ok_common_divisor (w := w) (base := base) T
  have G_reduced_equation := ok_reduced_equation (w := w) (base := base) T
  have G_reduced_multiple := ok_reduced_multiple (w := w) (base := base) T
  have G_reduced_inequality := ok_reduced_inequality (w := w) (base := base) T
  refine T.F_reduced_constraint.ok sc_reduced_constraint (fun vs H Q E h => ?_) (fun cdv A' outer s H vs Q E hr h => ?_)
  · obtain ⟨x, t, rfl, _⟩ := h
    rfl
  · obtain ⟨x, t, rfl, hT, ok, hz, q⟩ := h
    refine ⟨_, (pss_cons (ps_set (i := 1) sc_reduced_constraint.nd rfl (Or.inl rfl) (pe_ix ix_tup (pv 0) (pe_un un_neg pe_int) (fun _ _ => rfl))) 
    (pss_cons (ps_if (pt_cmpR op_eq (pe_ix ix_tup (pv 0) pe_int (fun _ _ => rfl)) pe_str (nomark _)) 
      (pss_one (ps_ret (pe_call G_reduced_multiple hr (by rfl) T.g_reduced_multiple T.F_reduced_multiple.kp T.B_reduced_multiple .nil pass0 (pa_cons (pe_ix ix_tup (pv 0) pe_int (fun _ _ => rfl)) (pa_cons (pv 1) pa_nil))))) pss_nil) 
    (pss_cons (ps_set (i := 2) sc_reduced_constraint.nd rfl (Or.inl rfl) (pe_call G_common_divisor (hr.mono (by decide)) (by rfl) T.g_common_divisor T.F_common_divisor.kp T.B_common_divisor .nil pass0 (pa_cons pe_int (pa_cons (pe_slice sl_tupA (pv 1) po_none (po_some (pe_un un_neg pe_int))) pa_nil)))) 
    (pss_cons (ps_if (pt_cmpR op_eq (pe_ix ix_tup (pv 0) pe_int (fun _ _ => rfl)) pe_str (nomark _)) 
      (pss_one (ps_ret (pe_call G_reduced_inequality hr (by rfl) T.g_reduced_inequality T.F_reduced_inequality.kp T.B_reduced_inequality .nil pass0 (pa_cons (pv 2) (pa_cons (pv 1) pa_nil))))) pss_nil) 
    (pss_one (ps_ret (pe_call G_reduced_equation hr (by rfl) T.g_reduced_equation T.F_reduced_equation.kp T.B_reduced_equation .nil pass0 (pa_cons (pv 2) (pa_cons (pv 1) pa_nil))))))))), ?_⟩
    walk_at "wp"
    obtain ⟨a, h1, h2⟩ := hT
    have n1 : ("ge" : Str) ≠ "div" := by decide +kernel
    have n2 : ("eq" : Str) ≠ "div" := by decide +kernel
    have n3 : ("eq" : Str) ≠ "ge" := by decide +kernel
    refine ⟨_, h1, _, kv_last, _, h1, ?_⟩
    obtain ⟨k, c, d⟩ := t
    have init : ∀ (H' : Hp) (p : Addr), Same H H' → True := fun _ _ _ => trivial
    have sl : ∀ Q : VK, (∀ H' p, Same H H' → SqT K H' p (c.map V.int) → Q (V.ref p) H') → rSlA K (V.ref a) none (some (-1)) H Q := fun Q qq => by
      rw [Ct.e, List.map_append] at h2
      exact sl_init h2 qq
    cases k with
    | ge =>
      refine ⟨_, rfl, rfl, ?_⟩
      walk_at "wp"
      rw [if_neg (by rw [decide_eq_true_eq]; exact n1)]
      refine sl _ fun H1 p s1 hp => ⟨0, p, c, rfl, by decide, hp, ?_⟩
      refine ⟨_, sameT s1 h1, _, rfl, rfl, ?_⟩
      walk_at "wp"
      exact ⟨a, ⟨.ge, c, d⟩, rfl, sameT s1 h2, rfl, hz, fun H2 v s2 r => q _ _ (s1.trans s2) r⟩
    | eq =>
      refine ⟨_, rfl, rfl, ?_⟩
      walk_at "wp"
      rw [if_neg (by rw [decide_eq_true_eq]; exact n2)]
      refine sl _ fun H1 p s1 hp => ⟨0, p, c, rfl, by decide, hp, ?_⟩
      refine ⟨_, sameT s1 h1, _, rfl, rfl, ?_⟩
      walk_at "wp"
      rw [if_neg (by rw [decide_eq_true_eq]; exact n3)]
      exact ⟨a, ⟨.eq, c, d⟩, rfl, sameT s1 h2, rfl, hz, fun H2 v s2 r => q _ _ (s1.trans s2) r⟩
    | div m =>
      refine ⟨_, rfl, rfl, ?_⟩
      walk_at "wp"
      refine ⟨_, h1, _, rfl, m, a, ⟨.div m, c, d⟩, rfl, h2, rfl, ok, hz, q⟩
end
local macro_rules | `(tactic| walk_at "wp") => `(tactic| simp only [tSeq, tAsg, gName, gTup, gCons, gNil, tVar, tC, tOp, tUn, rI, rI0, rU, tCB, tCons, tNil, tIfS, tRet, tRetN, tNext, tNever, test_eq, tB, tTup, tLst, tCall, tIf, tAndV, tOrV, tNotV, tNot, tAnd, tOr, rEq, rNe, scal_ii, scal_ss, scal_bb, dec_ii, dec_ss, dec_bb, for_eq, lc_eq, while_eq, tDrop, tYes, iList, iTup, iStr, iRng1, iRng2, RZ.iZipA, L2.start, rIxL, rIxT, rIxS, rSlS, cxK, tSl, tPart, tNoPart, tBM, tBM0, rAppend, rExtend, rRepS, rGcd, s_ge_eq, s_ge_div, s_eq_ge, s_eq_div, s_div_ge, s_div_eq, gSub, rSetL, tAug, ipI, rAdd, rSub, tM1, tM0,
  List.map_cons, List.map_nil, List.length_cons, List.length_nil, List.cons_append, List.nil_append, List.append_nil, List.getElem?_cons_succ, List.getElem?_cons_zero, List.set_cons_succ, List.set_cons_zero, Nat.reduceAdd, Nat.reduceSub, List.replicate_succ, List.replicate_zero, wipe,
  Option.some.injEq, V.int.injEq, V.str.injEq, sgn_eq, V.ref.injEq, V.bl.injEq, exists_eq_left, exists_eq_left', exists_and_left, exists_eq_right, List.cons.injEq, and_true, true_and, ex_bl, ex_int, exists_const, Nat.zero_add, Int.toNat_natCast, Int.zero_add, and_assoc, reduceCtorEq, false_and, and_false, exists_false, or_false, false_or, eq_self, decide_true, decide_false, ite_true, ite_false, if_true, if_false, Bool.false_eq_true, Bool.not_true, Bool.not_false, ↓reduceIte])
section
variable {w : World} {K : PySem.W.Frag} {mg : Str → Option Value} {base : Heap} {A : Ad}
def kvv : Kd → V → List V
  | .ge, a => [.str "ge", a]
  | .eq, a => [.str "eq", a]
  | .div m, a => [.str "div", .int m, a]
/-- a constraint that a law draws -/
structure Gd (n : Nat) (t : Ct) : Prop where
  ok : t.k.ok
  len : t.c.length = n
  cs : ∀ x ∈ t.c, Sz 4 x
  ds : Sz 21 t.d
  ms : match t.k with | .div m => Sz 4 m | _ => True
theorem Gd.nz {n : Nat} {t : Ct} (g : Gd n t) (hn : n ≤ 90) : Nz t := by
  refine ⟨by rw [g.len]; exact hn, fun x hx => ?_, ?_⟩
  · rcases List.mem_append.mp hx with h | h
    · exact (g.cs x h).mono (by decide)
    · rw [List.mem_singleton.mp h]
      exact g.ds.mono (by decide)
  · have := g.ms
    cases hk : t.k with
    | div m => rw [hk] at this; exact Sz.mono this (by decide)
    | ge => trivial
    | eq => trivial
def sp_law_cell (K : PySem.W.Frag) : Sp := fun vs H Q _ => ∃ (l : Addr) (ns : List Int) (j : Nat), vs = [V.ref l, V.int (j : Nat)] ∧ SqL K H l (ns.map V.int) ∧ Q (.int (L2.cellOf ns j)) H
def sp_law_draws (K : PySem.W.Frag) : Sp := fun vs H Q _ => ∃ (c : Int) (n : Nat), vs = [.int c, .int (n : Int)] ∧ Sz 1048577 c ∧ n ≤ 100 ∧ ∀ H' t (ds : List Int), Same H H' → H' t = some (.lst (ds.map V.int)) → H t = none → ds.length = n → Q (.ref t) H'
theorem ok_law_cell (T : Txt K mg A) : FnOk P w K mg base CX0 1 A.f_law_cell A.d_law_cell ["script", "k"] (sp_law_cell K) := by
  refine T.F_law_cell.ok sc_law_cell (fun vs H Q E h => ?_) (fun cdv A' outer s H vs Q E hr h => ?_)
  · obtain ⟨a, ns, j, rfl, _⟩ := h
    rfl
  · obtain ⟨a, ns, j, rfl, hS, q⟩ := h
    refine ⟨_, (pss_cons (ps_if (pt_cmpR op_lt (pv 1) (pe_callB call_len_seq (by rfl) T.b_len (by decide +kernel) (pa_cons (pv 0) pa_nil)) (nomark _)) 
      (pss_one (ps_ret (pe_ix ix_list (pv 0) (pv 1) (fun _ _ => rfl)))) pss_nil) 
    (pss_one (ps_ret pe_int))), ?_⟩
    walk_at "wp"
    refine ⟨_, .inl hS, ?_⟩
    by_cases hj : j < ns.length
    · rw [if_pos (by rw [List.length_map]; exact decide_eq_true (by omega))]
      exact ⟨_, hS, _, atI_cell hj, q⟩
    · rw [if_neg (by rw [List.length_map, decide_eq_true_eq]; omega)]
      rw [cell_out hj] at q
      exact q
theorem ok_law_draws (T : Txt K mg A) : FnOk P w K mg base CX0 1 A.f_law_draws A.d_law_draws ["cell", "count"] (sp_law_draws K) := by
  refine T.F_law_draws.ok sc_law_draws (fun vs H Q E h => ?_) (fun cdv A' outer s H vs Q E hr h => ?_)
  · obtain ⟨c, n, rfl, _⟩ := h
    rfl
  · obtain ⟨c, n, rfl, hc, hn, q⟩ := h
    refine ⟨_, (pss_cons (ps_set (i := 2) sc_law_draws.nd rfl (Or.inl rfl) (pe_lst pa_nil)) 
    (pss_cons (ps_set (i := 3) sc_law_draws.nd rfl (Or.inl rfl) (pe_callTy call_intI (by rfl) T.b_int (by decide +kernel) (pa_cons (pv 0) pa_nil))) 
    (pss_cons (ps_for PassesOwn.never rfl (pi_range1 (by rfl) T.b_range (pa_cons (pv 1) pa_nil)) (pg_name (i := 4) sc_law_draws.nd rfl (Or.inl rfl)) 
      (pss_cons (ps_set (i := 5) sc_law_draws.nd rfl (Or.inl rfl) (pe_op op_mod (pe_callTy call_intI (by rfl) T.b_int (by decide +kernel) (pa_cons (pe_op op_add (pe_op op_add (pe_op op_mulX (pv 0) pe_int) (pe_op op_mulX (pv 4) pe_int)) pe_int) pa_nil)) pe_int)) 
      (pss_one (ps_if (pt_cmpR op_ge (pv 0) (pe_op op_pow pe_int pe_int) (nomark _)) 
        (pss_cons (ps_expr (pe_bm PySem.F.plainAttrs_list PySem.F.slot_list_append PySem.F.type_list_append mt_append (pv 2) (pa_cons (pe_op op_mod (pv 3) pe_int) pa_nil))) 
        (pss_one (ps_set (i := 3) sc_law_draws.nd rfl (Or.inl rfl) (pe_op op_fdiv (pv 3) pe_int)))) 
        (pss_one (ps_expr (pe_bm PySem.F.plainAttrs_list PySem.F.slot_list_append PySem.F.type_list_append mt_append (pv 2) (pa_cons (pe_op op_fdiv (pe_op op_mod (pe_callTy call_intI (by rfl) T.b_int (by decide +kernel) (pa_cons (pe_op op_add (pe_op op_mulX (pv 5) (pv 5)) (pe_op op_mulX (pv 5) pe_int)) pa_nil)) pe_int) pe_int) pa_nil)))))))) 
    (pss_one (ps_ret (pv 2)))))), ?_⟩
    walk_at "wp"
    refine ⟨Nat.zero_le _, fun p np => ⟨by omega, by omega, ?_⟩⟩
    obtain ⟨Pv, hPv⟩ : ∃ Pv : Nat → St → Hp → Prop, ∀ i σ H', Pv i σ H' ↔ ∃ (r : Int) (ds : List Int) (v4 v5 : Option V), σ = [some (V.int c), some (V.int (n : Int)), some (V.ref p), some (V.int r), v4, v5] ∧ Same H H' ∧ H' p = some (.lst (ds.map V.int)) ∧ ds.length = i := ⟨_, fun _ _ _ => Iff.rfl⟩
    refine loop_it (walk_range0 (n := n)) Pv ((hPv _ _ _).mpr ⟨_, [], none, none, rfl, same_upd np, upd_same, rfl⟩) (fun _ _ _ _ _ => trivial) ?_ ?_
    · intro i x σ H1 H2 hi pw y
      obtain ⟨r, ds, v4, v5, rfl, s1, e1, hl⟩ := (hPv _ _ _).mp pw
      obtain ⟨rfl, rfl⟩ := y
      walk_at "wp"
      have sz : (ds.map V.int).length < sizeLine := small1000 (by rw [List.length_map]; omega)
      have ty : tyV K "list" (V.ref p) H2 := .inl ⟨rfl, _, SqL.of e1⟩
      have fin : ∀ (r' : Int) (v4' v5' : Option V) (z : Int), Pv (i + 1) [some (V.int c), some (V.int (n : Int)), some (V.ref p), some (V.int r'), v4', v5'] (upd H2 p (.lst (ds.map V.int ++ [V.int z]))) := fun r' v4' v5' z =>
        (hPv _ _ _).mpr ⟨r', ds ++ [z], v4', v5', rfl, fun b o e => by rw [upd_ne (ne_of_none e np)]; exact s1 _ _ e, by rw [upd_same, List.map_append]; rfl, by rw [List.length_append, List.length_singleton]; omega⟩
      have hi7 : Sz 7 ((i : Nat) : Int) := by
        unfold Sz
        rw [Int.natAbs_natCast]
        show i < 128
        omega
      have szk : ∀ z : Int, 0 ≤ z → z < 2147483648 → Sz 31 z := fun z z0 z1 => by
        unfold Sz
        show z.natAbs < 2147483648
        omega
      refine ⟨⟨_, _, hc, szk 48271 (by decide) (by decide), by decide⟩, ⟨_, _, hi7, szk 69621 (by decide) (by decide), by decide⟩, ?_⟩
      have m0 := Int.emod_nonneg (c * 48271 + (i : Int) * 69621 + 1) (show (2147483647 : Int) ≠ 0 by decide)
      have m1 := Int.emod_lt_of_pos (c * 48271 + (i : Int) * 69621 + 1) (show (0 : Int) < 2147483647 by decide)
      generalize (c * 48271 + (i : Int) * 69621 + 1) % 2147483647 = mx at *
      have hm := szk mx m0 (by omega)
      refine ⟨by decide, ⟨by decide, by decide, by decide⟩, ?_⟩
      split
      · exact ⟨ty, by decide, _, e1, sz, ⟨by decide, by decide⟩, fin _ _ _ _⟩
      · refine ⟨ty, ⟨_, _, hm, hm, by decide⟩, ⟨_, _, hm, szk 40692 (by decide) (by decide), by decide⟩, by decide, ⟨by decide, by decide⟩, _, e1, sz, fin _ _ _ _⟩
    · intro σ H1 pw
      obtain ⟨r, ds, v4, v5, rfl, s1, e1, hl⟩ := (hPv _ _ _).mp pw
      walk_at "wp"
      exact q _ _ ds s1 e1 np hl
end
local macro_rules | `(tactic| walk_at "wp") => `(tactic| simp only [tSeq, tAsg, gName, gTup, gCons, gNil, tVar, tC, tOp, tUn, rI, rI0, rU, tCB, tCons, tNil, tIfS, tRet, tRetN, tNext, tNever, test_eq, tB, tTup, tLst, tCall, tIf, tAndV, tOrV, tNotV, tNot, tAnd, tOr, rEq, rNe, scal_ii, scal_ss, scal_bb, dec_ii, dec_ss, dec_bb, for_eq, lc_eq, while_eq, tDrop, tYes, iList, iTup, iOr, tDNewN, tNSet, rNSet, sFld, tFld, tMake, tProp, tMeth, cxP, cxW, iStr, iRng1, iRng2, RZ.iZipA, L2.start, rIxL, rIxT, rIxS, rSlS, cxK, tSl, tPart, tNoPart, tBM, tBM0, rAppend, rExtend, rRepS, rGcd, s_ge_eq, s_ge_div, s_eq_ge, s_eq_div, s_div_ge, s_div_eq, gSub, rSetL, tAug, ipI, rAdd, rSub, tM1, tM0,
  List.map_cons, List.map_nil, List.length_cons, List.length_nil, List.cons_append, List.nil_append, List.append_nil, List.getElem?_cons_succ, List.getElem?_cons_zero, List.set_cons_succ, List.set_cons_zero, Nat.reduceAdd, Nat.reduceSub, List.replicate_succ, List.replicate_zero, wipe,
  Option.some.injEq, V.int.injEq, V.str.injEq, sgn_eq, V.ref.injEq, V.bl.injEq, exists_eq_left, exists_eq_left', exists_and_left, exists_eq_right, List.cons.injEq, and_true, true_and, ex_bl, ex_int, exists_const, Nat.zero_add, Int.toNat_natCast, Int.zero_add, and_assoc, reduceCtorEq, false_and, and_false, exists_false, or_false, false_or, eq_self, decide_true, decide_false, ite_true, ite_false, if_true, if_false, Bool.false_eq_true, Bool.not_true, Bool.not_false, ↓reduceIte])
/-! ### constraints as data -/
def Kd.pd : Kd → PyData → List PyData
  | .ge, d => [.str "ge", d]
  | .eq, d => [.str "eq", d]
  | .div m, d => [.str "div", .int m, d]
def Ct.pd (t : Ct) : PyData := .tuple (t.k.pd (.tuple (t.e.map PyData.int)))
theorem dp_ints {K : PySem.W.Frag} {H : Hp} : ∀ xs : List Int, DpAll K H (xs.map V.int) (xs.map PyData.int)
  | [] => .nil
  | x :: r => .cons (.int x) (dp_ints r)
theorem dp_ct {K : PySem.W.Frag} {H : Hp} {x : Addr} {t : Ct} (h : CtT K H x t) : Dp K H (.ref x) t.pd := by
  obtain ⟨a, h1, h2⟩ := h
  refine .tup h1 ?_
  have d := Dp.tup h2 (dp_ints t.e)
  cases t.k with
  | ge => exact .cons (.str _) (.cons d .nil)
  | eq => exact .cons (.str _) (.cons d .nil)
  | div m => exact .cons (.str _) (.cons (.int _) (.cons d .nil))
theorem lay_ints : ∀ xs : List Int, PyData.canLayAll0 (xs.map PyData.int) = true
  | [] => rfl
  | x :: r => by rw [List.map_cons, PyData.canLayAll0, lay_ints r]; rfl
theorem depth_ints : ∀ xs : List Int, PyData.depthAll (xs.map PyData.int) = 0
  | [] => rfl
  | x :: r => by rw [List.map_cons, PyData.depthAll, depth_ints r]; rfl
theorem lay_ct (t : Ct) : t.pd.canLay0 = true := by
  unfold Ct.pd
  cases t.k <;> simp only [Kd.pd, PyData.canLay0, PyData.canLayAll0, lay_ints] <;> decide +kernel
theorem depth_ct (t : Ct) : t.pd.depth ≤ 2 := by
  unfold Ct.pd
  cases t.k <;> simp only [Kd.pd, PyData.depth, PyData.depthAll, depth_ints] <;> decide
theorem shaped_ct (t : Ct) : SeqAt.shaped t.pd = true := by
  unfold SeqAt.shaped
  rw [lay_ct, decide_eq_true (Nat.le_trans (depth_ct t) (by decide))]
  rfl
/-! ### all but one object stand -/
def SBut (x : Addr) (H H' : Hp) : Prop := ∀ b o, b ≠ x → H b = some o → H' b = some o
theorem SBut.same {x : Addr} {H0 H H' : Hp} (s : SBut x H H') (h : Same H0 H) (n : H0 x = none) : Same H0 H' := fun b o e => s b o (ne_of_none e n) (h b o e)
theorem Same.but {x : Addr} {H H' : Hp} (s : Same H H') : SBut x H H' := fun b o _ e => s b o e
theorem SBut.trans {x : Addr} {H H1 H2 : Hp} (a : SBut x H H1) (b : SBut x H1 H2) : SBut x H H2 := fun c o n e => b c o n (a c o n e)
theorem SBut.upd {x : Addr} {H : Hp} {o : HO} : SBut x H (L2.upd H x o) := fun b u n e => by rw [upd_ne n]; exact e
def NoTup (o : HO) : Prop := (∀ xs, o ≠ .tup xs) ∧ ∀ ob xs, o ≠ .frz ob (.tup xs)
theorem sqT_but {K : PySem.W.Frag} {x a : Addr} {H H' : Hp} {o : HO} {xs : List V} (s : SBut x H H') (hx : H x = some o) (no : NoTup o) (h : SqT K H a xs) : SqT K H' a xs := by
  rcases h with (h | ⟨ob, h⟩) | h
  · exact .inl (.inl (s _ _ (ne_of h hx (fun z => no.1 _ z.symm)) h))
  · exact .inl (.inr ⟨ob, s _ _ (ne_of h hx (fun z => no.2 _ _ z.symm)) h⟩)
  · exact .inr h
theorem CtT.but {K : PySem.W.Frag} {x a : Addr} {H H' : Hp} {o : HO} {t : Ct} (s : SBut x H H') (hx : H x = some o) (no : NoTup o) (h : CtT K H a t) : CtT K H' a t := let ⟨b, h1, h2⟩ := h; ⟨b, sqT_but s hx no h1, sqT_but s hx no h2⟩
theorem noTup_ins {C dx : Addr} {fs : List (Str × V)} : NoTup (.ins C dx fs) := ⟨fun _ z => (by cases z), fun _ _ z => (by cases z)⟩
theorem noTup_lst {xs : List V} : NoTup (.lst xs) := ⟨fun _ z => (by cases z), fun _ _ z => (by cases z)⟩
theorem noTup_ext {φ : Heap → Prop} : NoTup (.ext φ) := ⟨fun _ z => (by cases z), fun _ _ z => (by cases z)⟩
section
variable {w : World} {K : PySem.W.Frag} {mg : Str → Option Value} {base : Heap} {A : Ad}
/-! ### rows and systems -/
abbrev Rw := Addr × Ct
def rv (rs : List Rw) : List V := rs.map fun r => V.ref r.1
def cts (rs : List Rw) : List Ct := rs.map (·.2)
def RwOk (K : PySem.W.Frag) (H : Hp) (rs : List Rw) : Prop := ∀ r ∈ rs, CtT K H r.1 r.2
theorem RwOk.same {K : PySem.W.Frag} {H H' : Hp} {rs : List Rw} (h : RwOk K H rs) (s : Same H H') : RwOk K H' rs := fun r hr => (h r hr).same s
/-- a constraint over n variables whose numbers are not too great -/
structure Wf (n : Nat) (t : Ct) : Prop where
  ok : t.k.ok
  len : t.c.length = n
  nz : Nz t
theorem Gd.wf {n : Nat} {t : Ct} (g : Gd n t) (hn : n ≤ 90) : Wf n t := ⟨g.ok, g.len, g.nz hn⟩
theorem imp_nz {n : Nat} (hn : n ≤ 90) : Nz (imp n) := ⟨by show (List.replicate n (0 : Int)).length ≤ 90; rw [List.length_replicate]; exact hn, fun x hx => by
  rcases List.mem_append.mp hx with h | h
  · rw [imp_cs n x h]; exact Sz.zero _
  · rw [List.mem_singleton.mp h]; exact sz_one _ (by decide), trivial⟩
theorem imp_wf {n : Nat} (hn : n ≤ 90) : Wf n (imp n) := ⟨trivial, List.length_replicate .., imp_nz hn⟩
theorem Wf.red {n : Nat} {t u : Ct} (w : Wf n t) (h : red t = some u) : Wf n u := by
  have a := red_ok w.ok h
  have b := red_all (b := 8000) (by decide) w.ok h w.nz.c w.nz.d w.nz.2.2
  exact ⟨a.1, a.2.trans w.len, by rw [a.2]; exact w.nz.1, fun x hx => by
    rcases List.mem_append.mp hx with h | h
    · exact b.1 x h
    · rw [List.mem_singleton.mp h]; exact b.2.1, b.2.2⟩
/-- a system -/
def SyO (C dx : Addr) (n : Nat) (ra : Addr) : HO := .ins C dx [("variables", .int (n : Int)), ("rows", .ref ra)]
structure Sy (K : PySem.W.Frag) (C : Addr) (H : Hp) (a dx ra : Addr) (n : Nat) (rs : List Rw) : Prop where
  ob : H a = some (SyO C dx n ra)
  rt : SqT K H ra (rv rs)
  ok : RwOk K H rs
theorem Sy.same {K : PySem.W.Frag} {C : Addr} {H H' : Hp} {a dx ra : Addr} {n : Nat} {rs : List Rw} (h : Sy K C H a dx ra n rs) (s : Same H H') : Sy K C H' a dx ra n rs := ⟨s _ _ h.ob, sameT s h.rt, h.ok.same s⟩
theorem look_var {x y : V} : ([(("variables" : Str), x), ("rows", y)] : List (Str × V)).lookup ("variables" : Str) = some x := by simp [List.lookup]
theorem look_rows {x y : V} : ([(("variables" : Str), x), ("rows", y)] : List (Str × V)).lookup ("rows" : Str) = some y := by
  simp [List.lookup, show (("rows" : Str) == ("variables" : Str)) = false by decide +kernel]
def sp_is_integer (K : PySem.W.Frag) : Sp := fun vs H Q _ => ∃ i : Int, vs = [.int i] ∧ Q (.bl true) H
def sp_is_tuple_of_integers (K : PySem.W.Frag) : Sp := fun vs H Q _ => ∃ (a : Addr) (xs : List Int) (c : Int), vs = [.ref a, .int c] ∧ SqT K H a (xs.map V.int) ∧ xs.length ≤ 1000000 ∧ ∀ H', Same H H' → Q (.bl (decide ((xs.length : Int) = c))) H'
def sp_is_constraint (K : PySem.W.Frag) : Sp := fun vs H Q _ => ∃ (x : Addr) (t : Ct) (n : Nat), vs = [.ref x, .int (n : Int)] ∧ CtT K H x t ∧ t.k.ok ∧ t.c.length = n ∧ n ≤ 90 ∧ ∀ H', Same H H' → Q (.bl true) H'
def sp_System___init__ (A : Ad) (K : PySem.W.Frag) : Sp := fun vs H Q _ => ∃ (x dx : Addr) (n : Nat) (ra : Addr) (rs : List Rw), vs = [.ref x, .int (n : Int), .ref ra] ∧ H x = some (.ins A.C_System dx []) ∧ (SqL K H ra (rv rs) ∨ SqT K H ra (rv rs)) ∧ RwOk K H rs ∧ (∀ r ∈ rs, Wf n r.2) ∧ n ≤ 90 ∧ rs.length ≤ 6000 ∧
  ∀ H' rb, (∀ b o, b ≠ x → H b = some o → H' b = some o) → Sy K A.C_System H' x dx rb n rs → Q .non H'
/-- a new system -/
theorem sys_make {A : Ad} {K : PySem.W.Frag} {H1 : Hp} {n : Nat} {ra : Addr} {rs : List Rw} {Qa : Addr → Hp → Prop} {E : XK} (hR : SqL K H1 ra (rv rs) ∨ SqT K H1 ra (rv rs)) (hO : RwOk K H1 rs) (hW : ∀ r ∈ rs, Wf n r.2) (hn : n ≤ 90) (hr : rs.length ≤ 6000)
    (k : ∀ H2 x dx rb, Same H1 H2 → Sy K A.C_System H2 x dx rb n rs → Qa x H2) :
    ∀ x dx, H1 x = none → H1 dx = none → dx ≠ x → sp_System___init__ A K (.ref x :: ([.int (n : Int), .ref ra] ++ [])) (upd (upd H1 dx (.own x)) x (.ins A.C_System dx [])) (fun v H2 => v = .non ∧ Qa x H2) E := by
  intro x dx nx ndx ne
  have s1 : Same H1 (upd (upd H1 dx (.own x)) x (.ins A.C_System dx [])) := fun b o e => by
    rw [upd_ne (ne_of_none e nx), upd_ne (ne_of_none e ndx)]
    exact e
  refine ⟨x, dx, n, ra, rs, rfl, upd_same, ?_, hO.same s1, hW, hn, hr, fun H' rb b sy => ⟨rfl, k H' x dx rb ?_ sy⟩⟩
  · rcases hR with h | h
    · exact .inl (s1.seq h)
    · exact .inr (sameT s1 h)
  · exact SBut.same b s1 nx
theorem ok_is_integer (T : Txt K mg A) : FnOk P w K mg base CX0 1 A.f_is_integer A.d_is_integer ["value"] (sp_is_integer K) := by
  refine T.F_is_integer.ok sc_is_integer (fun vs H Q E h => ?_) (fun cdv A' outer s H vs Q E hr h => ?_)
  · obtain ⟨i, rfl, _⟩ := h
    rfl
  · obtain ⟨i, rfl, q⟩ := h
    refine ⟨_, (pss_one (ps_ret (pe_and (pe_callB call_isi (by rfl) T.b_isinstance (by decide +kernel) (pa_cons (pv 0) (pa_cons (pe_bltn (v := .ty "int") (by rfl) T.b_int (by decide +kernel) rfl) pa_nil))) (pe_one (pe_not (pe_callB call_isi (by rfl) T.b_isinstance (by decide +kernel) (pa_cons (pv 0) (pa_cons (pe_bltn (v := .ty "bool") (by rfl) T.b_bool (by decide +kernel) rfl) pa_nil)))))))), ?_⟩
    walk_at "wp"
    refine isi ty_int (r := true) (by decide +kernel) ?_
    walk_at "wp"
    refine isi ty_int (r := false) (by decide +kernel) ?_
    walk_at "wp"
    exact q
theorem ok_is_tuple_of_integers (T : Txt K mg A) : FnOk P w K mg base CX0 2 A.f_is_tuple_of_integers A.d_is_tuple_of_integers ["value", "count"] (sp_is_tuple_of_integers K) := by
  have G_is_integer := ok_is_integer (w := w) (base := base) T
  refine T.F_is_tuple_of_integers.ok sc_is_tuple_of_integers (fun vs H Q E h => ?_) (fun cdv A' outer s H vs Q E hr h => ?_)
  · obtain ⟨a, xs, c, rfl, _⟩ := h
    rfl
  · obtain ⟨a, xs, c, rfl, hX, hn, q⟩ := h
    refine ⟨_, (pss_cons (ps_if (PW.pt (pw_or (pt_not (pt_val (pe_callB call_isi (by rfl) T.b_isinstance (by decide +kernel) (pa_cons (pv 0) (pa_cons (pe_bltn (v := .ty "tuple") (by rfl) T.b_tuple (by decide +kernel) rfl) pa_nil))))) (pw_or1 (pt_cmpR op_ne (pe_callB call_len_seq (by rfl) T.b_len (by decide +kernel) (pa_cons (pv 0) pa_nil)) (pv 1) (nomark _))))) 
      (pss_one (ps_ret pe_bl)) pss_nil) 
    (pss_one (ps_ret (pe_callB (cr_all rfl) (by rfl) T.b_all (by decide +kernel) (pa_cons (pe_lc (own := [("number", 2)]) (by rfl) sc_is_tuple_of_integers.nd (pi_tup (pv 0)) (blkOk_by (own := [("number", 2)]) (N := ["value", "count", "number"]) (sc := defScope s_is_tuple_of_integers) (by decide +kernel)) (fun _ _ _ _ _ => (pg_name (i := 2) sc_is_tuple_of_integers.nd rfl (Or.inl rfl) (Or.inr rfl))) (fun _ _ _ _ _ => pts_nil) (fun _ _ _ _ _ => (pe_call G_is_integer hr (by rfl) T.g_is_integer T.F_is_integer.kp T.B_is_integer .nil pass0 (pa_cons (pv 2) pa_nil)))) pa_nil))))), ?_⟩
    walk_at "wp"
    refine isi (ty_tup hX) (r := true) (by decide +kernel) ?_
    walk_at "wp"
    refine ⟨_, .inr hX, ?_⟩
    rw [List.length_map]
    by_cases hc : (xs.length : Int) = c
    · rw [if_neg (by rw [decide_eq_true hc]; decide)]
      rw [decide_eq_true hc] at q
      refine ⟨⟨_, hX⟩, fun D hD => lc_yat (walk_tup (xs := xs.map V.int)) rfl (fun _ => V.bl true) hD (by rw [List.length_map]; exact hn) (fun H' s => sameT s hX) (fun x H' R hx s1 k => ?_) (fun H' s' e => ?_)⟩
      · obtain ⟨z, _, rfl⟩ := List.mem_map.mp hx
        walk_at "wp"
        exact ⟨z, rfl, k _ (Same.refl _)⟩
      · refine ⟨D, (xs.map V.int).map (fun _ => true), rfl, ?_, ?_⟩
        · rw [List.map_map]
          exact SqL.of e
        · rw [show ((xs.map V.int).map (fun _ => true)).all id = true by simp]
          exact q _ s'
    · rw [if_pos (by rw [decide_eq_false hc]; rfl)]
      rw [decide_eq_false hc] at q
      exact q _ (Same.refl _)
theorem ok_is_constraint (T : Txt K mg A) : FnOk P w K mg base CX0 3 A.f_is_constraint A.d_is_constraint ["row", "variables"] (sp_is_constraint K) := by
  have G_is_tuple_of_integers := ok_is_tuple_of_integers (w := w) (base := base) T
  have G_is_integer := ok_is_integer (w := w) (base := base) T
  refine T.F_is_constraint.ok sc_is_constraint (fun vs H Q E h => ?_) (fun cdv A' outer s H vs Q E hr h => ?_)
  · obtain ⟨x, t, n, rfl, _⟩ := h
    rfl
  · obtain ⟨x, t, n, rfl, hT, ok, hl, hn, q⟩ := h
    refine ⟨_, (pss_cons (ps_if (PW.pt (pw_or (pt_not (pt_val (pe_callB call_isi (by rfl) T.b_isinstance (by decide +kernel) (pa_cons (pv 0) (pa_cons (pe_bltn (v := .ty "tuple") (by rfl) T.b_tuple (by decide +kernel) rfl) pa_nil))))) (pw_or1 (pt_cmpR op_lt (pe_callB call_len_seq (by rfl) T.b_len (by decide +kernel) (pa_cons (pv 0) pa_nil)) pe_int (nomark _))))) 
      (pss_one (ps_ret pe_bl)) pss_nil) 
    (pss_cons (ps_if (pt_not (pt_val (pe_call G_is_tuple_of_integers hr (by rfl) T.g_is_tuple_of_integers T.F_is_tuple_of_integers.kp T.B_is_tuple_of_integers .nil pass0 (pa_cons (pe_ix ix_tup (pv 0) (pe_un un_neg pe_int) (fun _ _ => rfl)) (pa_cons (pe_op op_add (pv 1) pe_int) pa_nil))))) 
      (pss_one (ps_ret pe_bl)) pss_nil) 
    (pss_cons (ps_if (pt_cmpR op_eq (pe_ix ix_tup (pv 0) pe_int (fun _ _ => rfl)) pe_str (nomark _)) 
      (pss_one (ps_ret (pe_and (pe_cmpR op_eq (pe_callB call_len_seq (by rfl) T.b_len (by decide +kernel) (pa_cons (pv 0) pa_nil)) pe_int (nomark _)) (pe_and (pe_call G_is_integer (hr.mono (by decide)) (by rfl) T.g_is_integer T.F_is_integer.kp T.B_is_integer .nil pass0 (pa_cons (pe_ix ix_tup (pv 0) pe_int (fun _ _ => rfl)) pa_nil)) (pe_one (pe_cmpR op_ge (pe_ix ix_tup (pv 0) pe_int (fun _ _ => rfl)) pe_int (nomark _))))))) pss_nil) 
    (pss_one (ps_ret (pe_and (pe_cmpR op_eq (pe_callB call_len_seq (by rfl) T.b_len (by decide +kernel) (pa_cons (pv 0) pa_nil)) pe_int (nomark _)) (pe_one (pe_cmpR op_in_seq (pe_ix ix_tup (pv 0) pe_int (fun _ _ => rfl)) (pe_tup (pa_cons pe_str (pa_cons pe_str pa_nil))) (by rfl))))))))), ?_⟩
    walk_at "wp"
    obtain ⟨a, h1, h2⟩ := hT
    refine isi (ty_tup h1) (r := true) (by decide +kernel) ?_
    walk_at "wp"
    refine ⟨_, .inr h1, ?_⟩
    rw [if_neg (by rw [decide_eq_true_eq]; cases t.k <;> (show ¬ ((_ : Nat) : Int) < 2; simp [Kd.v]))]
    have hel : t.e.length = n + 1 := by rw [← List.length_map (f := V.int), e_len, hl]
    refine ⟨_, h1, _, kv_last, a, t.e, (n : Int) + 1, rfl, h2, by omega, fun H1 s1 => ⟨true, by rw [hel, decide_eq_true (by omega)], ?_⟩⟩
    have h1' := sameT s1 h1
    walk_at "wp"
    refine ⟨_, h1', ?_⟩
    obtain ⟨k, c, d⟩ := t
    cases k with
    | ge =>
      refine ⟨_, rfl, rfl, ?_⟩
      walk_at "wp"
      refine ⟨_, .inr h1', ?_⟩
      rw [if_pos (by rfl)]
      refine ⟨_, h1', _, rfl, by decide, fun p np => ?_⟩
      exact rin ["ge", "eq"] (v := "ge") (.inr (SqT.of upd_same)) (by rw [decide_eq_true (by decide +kernel)]; exact q _ (s1.trans (same_upd np)))
    | eq =>
      refine ⟨_, rfl, rfl, ?_⟩
      walk_at "wp"
      refine ⟨_, .inr h1', ?_⟩
      rw [if_pos (by rfl)]
      refine ⟨_, h1', _, rfl, by decide, fun p np => ?_⟩
      exact rin ["ge", "eq"] (v := "eq") (.inr (SqT.of upd_same)) (by rw [decide_eq_true (by decide +kernel)]; exact q _ (s1.trans (same_upd np)))
    | div m =>
      refine ⟨_, rfl, rfl, ?_⟩
      walk_at "wp"
      refine ⟨_, .inr h1', ?_⟩
      rw [if_pos (by rfl)]
      refine ⟨_, h1', _, rfl, m, rfl, ?_⟩
      walk_at "wp"
      refine ⟨_, h1', _, rfl, m, rfl, ?_⟩
      rw [decide_eq_true (show 1 ≤ m from ok)]
      exact q _ s1
theorem ok_System___init__ (T : Txt K mg A) : FnOk P w K mg base CX0 4 A.f_System___init__ A.d_System___init__ ["self", "variables", "rows"] (sp_System___init__ A K) := by
  have G_is_constraint := ok_is_constraint (w := w) (base := base) T
  refine T.F_System___init__.ok sc_System___init__ (fun vs H Q E h => ?_) (fun cdv A' outer s H vs Q E hr h => ?_)
  · obtain ⟨x, dx, n, ra, rs, rfl, _⟩ := h
    rfl
  · obtain ⟨x, dx, n, ra, rs, rfl, hx, hR, hO, hW, hn, hr9, q⟩ := h
    refine ⟨_, (pss_cons (ps_if (pt_not (pt_val (pe_callB (cr_all rfl) (by rfl) T.b_all (by decide +kernel) (pa_cons (pe_lc (own := [("row", 3)]) (by rfl) sc_System___init__.nd (pi_or (pi_list (pv 2)) (pi_tup (pv 2))) (blkOk_by (own := [("row", 3)]) (N := ["self", "variables", "rows", "row"]) (sc := defScope s_System___init__) (by decide +kernel)) (fun _ _ _ _ _ => (pg_name (i := 3) sc_System___init__.nd rfl (Or.inl rfl) (Or.inr rfl))) (fun _ _ _ _ _ => pts_nil) (fun _ _ _ _ _ => (pe_call G_is_constraint hr (by rfl) T.g_is_constraint T.F_is_constraint.kp T.B_is_constraint .nil pass0 (pa_cons (pv 3) (pa_cons (pv 1) pa_nil))))) pa_nil)))) 
      (pss_one ps_never) pss_nil) 
    (pss_cons (ps_fld (pv 0) (pv 1) rfl) 
    (pss_one (ps_fld (pv 0) (pe_callTy call_tuple_of (by rfl) T.b_tuple (by decide +kernel) (pa_cons (pv 2) pa_nil)) rfl)))), ?_⟩
    walk_at "wp"
    have body : ∀ (D : Addr) (R : Hp → Prop), H D = none → (∀ H', Same H H' → H' D = some (.lst (rs.map fun _ => V.bl true)) → R H') → ∀ (J : It), (Walk J (rv rs).length (fun H' => Same H H') (YAt (rv rs))) →
        LoopC J (gName 3) tYes (tCall (sp_is_constraint K) [] E0 (tCons (tVar 3) (tCons (tVar 1) tNil))) [3] [some (V.ref x), some (V.int (n : Int)), some (V.ref ra), none] H D R := fun D R hD k J wk => by
      refine lc_yat wk rfl (fun _ => V.bl true) hD (by rw [rv, List.length_map]; omega) (fun H' s => s) (fun v H' R' hv s1 k1 => ?_) (fun H' s' e => k H' s' ?_)
      · obtain ⟨r, hr', rfl⟩ := List.mem_map.mp hv
        walk_at "wp"
        exact ⟨r.1, r.2, n, rfl, (hO r hr').same s1, (hW r hr').ok, (hW r hr').len, hn, k1⟩
      · rw [e, rv, List.map_map]
        rfl
    have pf : putF (Str.ofString "rows") = fun (v : V) fs => putF (Str.ofString "rows") v fs := rfl
    have fs1 : putF (Str.ofString "variables") (V.int (n : Int)) [] = [(Str.ofString "variables", V.int (n : Int))] := rfl
    have fs2 : ∀ rb, putF (Str.ofString "rows") (V.ref rb) [(Str.ofString "variables", V.int (n : Int))] = [(Str.ofString "variables", V.int (n : Int)), (Str.ofString "rows", V.ref rb)] := fun rb => by
      simp [putF, show ¬ (Str.ofString "variables" = Str.ofString "rows") by decide +kernel]
    have fin2 : ∀ (H2 : Hp) (rb : Addr), SBut x H H2 → H2 x = some (.ins A.C_System dx [(Str.ofString "variables", V.int (n : Int))]) → SqT K H2 rb (rv rs) → RwOk K H2 rs → Q .non (upd H2 x (.ins A.C_System dx (putF (Str.ofString "rows") (V.ref rb) [(Str.ofString "variables", V.int (n : Int))]))) := fun H2 rb b e2 hrb ho2 => by
      rw [fs2]
      exact q _ rb (b.trans SBut.upd) ⟨upd_same, sqT_but SBut.upd e2 noTup_ins hrb, fun r hr' => CtT.but SBut.upd e2 noTup_ins (ho2 r hr')⟩
    have bx : ∀ H', Same H H' → SBut x H (upd H' x (.ins A.C_System dx [(Str.ofString "variables", V.int (n : Int))])) := fun H' s' => (Same.but s').trans SBut.upd
    have ox : ∀ H', Same H H' → RwOk K (upd H' x (.ins A.C_System dx [(Str.ofString "variables", V.int (n : Int))])) rs := fun H' s' r hr' => CtT.but SBut.upd (s' _ _ hx) noTup_ins ((hO r hr').same s')
    rcases hR with hL | hT
    · refine .inl ⟨⟨_, hL⟩, fun D hD => body D _ hD (fun H' s' e => ?_) _ ((walk_list (xs := rv rs)).mono (fun H' s => s.seq hL) (fun i H' v H'' _ _ y => y))⟩
      refine ⟨D, rs.map fun _ => true, rfl, by rw [List.map_map]; exact SqL.of e, ?_⟩
      rw [show (rs.map fun _ => true).all id = true by simp]
      refine ⟨true, rfl, ?_⟩
      rw [if_neg (by decide)]
      refine ⟨A.C_System, dx, [], s' _ _ hx, T.cl_System, T.na_System_variables, by decide, ?_⟩
      rw [fs1]
      have hL' : SqL K (upd H' x (.ins A.C_System dx [(Str.ofString "variables", V.int (n : Int))])) ra (rv rs) := by
        rcases s'.seq hL with (h | ⟨ob, h⟩) | h
        · exact .inl (.inl (by rw [upd_ne (ne_of h (s' _ _ hx) (fun z => by cases z))]; exact h))
        · exact .inl (.inr ⟨ob, by rw [upd_ne (ne_of h (s' _ _ hx) (fun z => by cases z))]; exact h⟩)
        · exact .inr h
      refine ⟨_, .inl ⟨hL', fun l nl => ?_⟩⟩
      have e3 : (upd (upd H' x (.ins A.C_System dx [(Str.ofString "variables", V.int (n : Int))])) l (.tup (rv rs))) x = some (.ins A.C_System dx [(Str.ofString "variables", V.int (n : Int))]) := by
        rw [upd_ne (fun z => by rw [← z, upd_same] at nl; cases nl), upd_same]
      refine ⟨A.C_System, dx, _, e3, T.cl_System, T.na_System_rows, by show 1 < 1000; decide, ?_⟩
      exact fin2 _ l ((bx H' s').trans (Same.but (same_upd nl))) e3 (SqT.of upd_same) ((ox H' s').same (same_upd nl))
    · refine .inr ⟨⟨_, hT⟩, fun D hD => body D _ hD (fun H' s' e => ?_) _ ((walk_tup (xs := rv rs)).mono (fun H' s => sameT s hT) (fun i H' v H'' _ _ y => y))⟩
      refine ⟨D, rs.map fun _ => true, rfl, by rw [List.map_map]; exact SqL.of e, ?_⟩
      rw [show (rs.map fun _ => true).all id = true by simp]
      refine ⟨true, rfl, ?_⟩
      rw [if_neg (by decide)]
      refine ⟨A.C_System, dx, [], s' _ _ hx, T.cl_System, T.na_System_variables, by decide, ?_⟩
      rw [fs1]
      refine ⟨_, .inr ⟨sqT_but SBut.upd (s' _ _ hx) noTup_ins (sameT s' hT), ?_⟩⟩
      refine ⟨A.C_System, dx, _, upd_same, T.cl_System, T.na_System_rows, by show 1 < 1000; decide, ?_⟩
      exact fin2 _ ra (bx H' s') upd_same (sqT_but SBut.upd (s' _ _ hx) noTup_ins (sameT s' hT)) (ox H' s')
end
local macro_rules | `(tactic| walk_at "wp") => `(tactic| simp only [tSeq, tAsg, gName, gTup, gCons, gNil, tVar, tC, tOp, tUn, rI, rI0, rU, tCB, tCons, tNil, tIfS, tRet, tRetN, tNext, tNever, test_eq, tB, tTup, tLst, tCall, tIf, tAndV, tOrV, tNotV, tNot, tAnd, tOr, rEq, rNe, scal_ii, scal_ss, scal_bb, dec_ii, dec_ss, dec_bb, for_eq, lc_eq, while_eq, tDrop, tYes, iList, iTup, iOr, tDNewN, tNSet, rNSet, sFld, tFld, tMake, tProp, tMeth, cxP, cxW, iStr, iRng1, iRng2, RZ.iZipA, L2.start, rIxL, rIxT, rIxS, rSlS, cxK, tSl, tPart, tNoPart, tBM, tBM0, rAppend, rExtend, rRepS, rGcd, s_ge_eq, s_ge_div, s_eq_ge, s_eq_div, s_div_ge, s_div_eq, gSub, rSetL, tAug, ipI, rAdd, rSub, tM1, tM0,
  List.map_cons, List.map_nil, List.length_cons, List.length_nil, List.cons_append, List.nil_append, List.append_nil, List.getElem?_cons_succ, List.getElem?_cons_zero, List.set_cons_succ, List.set_cons_zero, Nat.reduceAdd, Nat.reduceSub, List.replicate_succ, List.replicate_zero, wipe,
  Option.some.injEq, V.int.injEq, V.str.injEq, sgn_eq, V.ref.injEq, V.bl.injEq, exists_eq_left, exists_eq_left', exists_and_left, exists_eq_right, List.cons.injEq, and_true, true_and, ex_bl, ex_int, exists_const, Nat.zero_add, Int.toNat_natCast, Int.zero_add, and_assoc, reduceCtorEq, false_and, and_false, exists_false, or_false, false_or, eq_self, decide_true, decide_false, ite_true, ite_false, if_true, if_false, Bool.false_eq_true, Bool.not_true, Bool.not_false, ↓reduceIte])
/-! ### the reduced rows -/
/-- of one key: the same, but for a bound's constant -/
def sk (f u : Ct) : Bool := match f.k, u.k with
  | .ge, .ge => decide (f.c = u.c)
  | .eq, .eq => decide (f.c = u.c ∧ f.d = u.d)
  | .div m, .div m' => decide (m = m' ∧ f.c = u.c ∧ f.d = u.d)
  | _, _ => false
def ins : List Ct → Ct → List Ct
  | [], u => [u]
  | f :: r, u => if sk f u then (if u.d < f.d then u else f) :: r else f :: ins r u
def rrows (n : Nat) : List Ct → List Ct → List Ct
  | found, [] => found
  | found, t :: r => match red t with
    | none => rrows n found r
    | some u => if u = imp n then [u] else rrows n (ins found u) r
theorem sk_refl (u : Ct) : sk u u = true := by
  obtain ⟨k, c, d⟩ := u
  cases k <;> simp [sk]
theorem sk_k {f u : Ct} (h : sk f u = true) : f.k = u.k := by
  obtain ⟨k, c, d⟩ := f
  obtain ⟨k', c', d'⟩ := u
  cases k <;> cases k' <;> simp [sk] at h <;> first | rfl | (rw [h.1])
theorem sk_c {f u : Ct} (h : sk f u = true) : f.c = u.c := by
  obtain ⟨k, c, d⟩ := f
  obtain ⟨k', c', d'⟩ := u
  cases k <;> cases k' <;> simp [sk] at h <;> first | exact h | exact h.1 | exact h.2.1
theorem sk_symm {f u : Ct} (h : sk f u = true) : sk u f = true := by
  obtain ⟨k, c, d⟩ := f
  obtain ⟨k', c', d'⟩ := u
  cases k <;> cases k' <;> simp [sk] at h ⊢ <;> first | exact h.symm | exact ⟨h.1.symm, h.2.symm⟩ | exact ⟨h.1.symm, h.2.1.symm, h.2.2.symm⟩
theorem sk_trans {f u v : Ct} (h : sk f u = true) (g : sk u v = true) : sk f v = true := by
  obtain ⟨k, c, d⟩ := f
  obtain ⟨k', c', d'⟩ := u
  obtain ⟨k2, c2, d2⟩ := v
  cases k <;> cases k' <;> cases k2 <;> simp [sk] at h g ⊢ <;> first | exact h.trans g | exact ⟨h.1.trans g.1, h.2.trans g.2⟩ | exact ⟨h.1.trans g.1, h.2.1.trans g.2.1, h.2.2.trans g.2.2⟩
/-- where it is not a bound, one key says the same constraint -/
theorem sk_eq {f u : Ct} (h : sk f u = true) (hk : f.k ≠ .ge) : f = u := by
  obtain ⟨k, c, d⟩ := f
  obtain ⟨k', c', d'⟩ := u
  cases k with
  | ge => exact absurd rfl hk
  | eq =>
    cases k' <;> simp [sk] at h
    rw [h.1, h.2]
  | div m =>
    cases k' <;> simp [sk] at h
    rw [h.1, h.2.1, h.2.2]
theorem pick_sk {f u : Ct} (h : sk f u = true) : sk f (if u.d < f.d then u else f) = true := by
  split
  · exact h
  · exact sk_refl f
/-- both hold exactly if the one that is kept does -/
theorem pick_at {f u : Ct} (h : sk f u = true) (p : List Int) : (if u.d < f.d then u else f).at_ p = (f.at_ p && u.at_ p) := by
  by_cases hk : f.k = .ge
  · have hu : u.k = .ge := (sk_k h).symm.trans hk
    have hc := sk_c h
    obtain ⟨k, c, d⟩ := f
    obtain ⟨k', c', d'⟩ := u
    dsimp only at hk hu hc
    subst hk hu hc
    dsimp only
    by_cases hd : d' < d
    · rw [if_pos hd]
      simp only [Ct.at_, Kd.holds]
      generalize dot c p = v
      rw [← Bool.decide_and]
      exact decide_eq_decide.mpr (by omega)
    · rw [if_neg hd]
      simp only [Ct.at_, Kd.holds]
      generalize dot c p = v
      rw [← Bool.decide_and]
      exact decide_eq_decide.mpr (by omega)
  · have e := sk_eq h hk
    subst e
    rw [ite_self, Bool.and_self]
theorem ins_all (p : List Int) : ∀ (found : List Ct) (u : Ct), (ins found u).all (·.at_ p) = (found.all (·.at_ p) && u.at_ p)
  | [], u => by simp [ins]
  | f :: r, u => by
    rw [ins]
    split
    · rename_i h
      rw [List.all_cons, pick_at h, List.all_cons]
      cases f.at_ p <;> cases u.at_ p <;> cases r.all (·.at_ p) <;> rfl
    · rw [List.all_cons, ins_all p r u, List.all_cons, Bool.and_assoc]
theorem rrows_all (n : Nat) (p : List Int) : ∀ (rows found : List Ct), (∀ t ∈ rows, t.k.ok) → (rrows n found rows).all (·.at_ p) = (found.all (·.at_ p) && rows.all (·.at_ p))
  | [], found, _ => by simp [rrows]
  | t :: r, found, h => by
    have hr := red_at t (h t List.mem_cons_self) p
    rw [rrows, List.all_cons]
    cases hq : red t with
    | none =>
      rw [hq] at hr
      dsimp only
      rw [rrows_all n p r found fun x hx => h x (List.mem_cons_of_mem _ hx), ← show true = t.at_ p from hr, Bool.true_and]
    | some u =>
      rw [hq] at hr
      dsimp only
      have hu : u.at_ p = t.at_ p := hr
      by_cases hi : u = imp n
      · rw [if_pos hi, List.all_cons, List.all_nil, Bool.and_true, ← hu, hi, imp_at, Bool.false_and, Bool.and_false]
      · rw [if_neg hi, rrows_all n p r _ fun x hx => h x (List.mem_cons_of_mem _ hx), ins_all, hu, Bool.and_assoc]
theorem ins_mem {found : List Ct} {u x : Ct} : x ∈ ins found u → x ∈ found ∨ x = u := by
  induction found with
  | nil => intro h; exact .inr (List.mem_singleton.mp h)
  | cons f r ih =>
    rw [ins]
    split
    · intro h
      rcases List.mem_cons.mp h with h | h
      · split at h
        · exact .inr h
        · exact .inl (h ▸ List.mem_cons_self)
      · exact .inl (List.mem_cons_of_mem _ h)
    · intro h
      rcases List.mem_cons.mp h with h | h
      · exact .inl (h ▸ List.mem_cons_self)
      · rcases ih h with h | h
        · exact .inl (List.mem_cons_of_mem _ h)
        · exact .inr h
def NoTwo (l : List Ct) : Prop := l.Pairwise fun f g => sk f g = false
theorem sk_cong {f g u : Ct} (h : sk f g = true) : sk f u = sk g u := by
  cases h1 : sk f u <;> cases h2 : sk g u <;> try rfl
  · exact (Bool.false_ne_true (h1.symm.trans (sk_trans h h2))).elim
  · exact (Bool.false_ne_true (h2.symm.trans (sk_trans (sk_symm h) h1))).elim
theorem sk_cong2 {f g u : Ct} (h : sk f g = true) : sk u f = sk u g := by
  cases h1 : sk u f <;> cases h2 : sk u g <;> try rfl
  · exact (Bool.false_ne_true (h1.symm.trans (sk_trans h2 (sk_symm h)))).elim
  · exact (Bool.false_ne_true (h2.symm.trans (sk_trans h1 h))).elim
theorem ins_two {found : List Ct} {u : Ct} (h : NoTwo found) : NoTwo (ins found u) := by
  induction found with
  | nil => exact List.pairwise_singleton _ _
  | cons f r ih =>
    obtain ⟨h1, h2⟩ := List.pairwise_cons.mp h
    rw [ins]
    split
    · rename_i hs
      refine List.pairwise_cons.mpr ⟨fun g hg => ?_, h2⟩
      rw [← sk_cong (pick_sk hs)]
      exact h1 g hg
    · rename_i hs
      refine List.pairwise_cons.mpr ⟨fun g hg => ?_, ih h2⟩
      rcases ins_mem hg with hg | hg
      · exact h1 g hg
      · rw [hg]
        exact Bool.eq_false_iff.mpr hs
theorem rrows_two (n : Nat) : ∀ (rows found : List Ct), NoTwo found → NoTwo (rrows n found rows)
  | [], _, h => h
  | t :: r, found, h => by
    rw [rrows]
    cases red t with
    | none => exact rrows_two n r found h
    | some u =>
      dsimp only
      split
      · exact List.pairwise_singleton _ _
      · exact rrows_two n r _ (ins_two h)
/-- what holds of all reduced constraints -/
theorem rrows_mem (n : Nat) (P : Ct → Prop) : ∀ (rows found : List Ct), (∀ t ∈ rows, ∀ u, red t = some u → P u) → (∀ t ∈ found, P t) → ∀ t ∈ rrows n found rows, P t
  | [], _, _, h => h
  | t :: r, found, h, hf => by
    rw [rrows]
    cases hq : red t with
    | none => exact rrows_mem n P r found (fun x hx => h x (List.mem_cons_of_mem _ hx)) hf
    | some u =>
      have pu := h t List.mem_cons_self u hq
      dsimp only
      split
      · intro x hx
        rw [List.mem_singleton.mp hx]
        exact pu
      · refine rrows_mem n P r _ (fun x hx => h x (List.mem_cons_of_mem _ hx)) fun x hx => ?_
        rcases ins_mem hx with hx | hx
        · exact hf x hx
        · rw [hx]; exact pu
theorem ins_len (found : List Ct) (u : Ct) : (ins found u).length ≤ found.length + 1 := by
  induction found with
  | nil => exact Nat.le_refl _
  | cons f r ih =>
    rw [ins]
    split
    · simp
    · simp only [List.length_cons]; omega
theorem rrows_len (n : Nat) : ∀ (rows found : List Ct), (rrows n found rows).length ≤ found.length + rows.length + 1
  | [], _ => by rw [rrows]; omega
  | t :: r, found => by
    rw [rrows]
    have := rrows_len n r found
    cases red t with
    | none => simp only [List.length_cons]; omega
    | some u =>
      dsimp only
      split
      · simp
      · have h1 := rrows_len n r (ins found u)
        have h2 := ins_len found u
        simp only [List.length_cons]
        omega
/-- the place of a key -/
def fidx (u : Ct) : List Ct → Nat
  | [] => 0
  | f :: r => if sk f u then 0 else fidx u r + 1
theorem fidx_le (u : Ct) : ∀ l : List Ct, fidx u l ≤ l.length
  | [] => Nat.le_refl _
  | f :: r => by
    rw [fidx]
    split
    · exact Nat.zero_le _
    · have := fidx_le u r
      simp only [List.length_cons]
      omega
theorem ins_new (u : Ct) : ∀ l : List Ct, (∀ f ∈ l, sk f u = false) → ins l u = l ++ [u] ∧ fidx u l = l.length
  | [], _ => ⟨rfl, rfl⟩
  | f :: r, h => by
    have h0 := h f List.mem_cons_self
    obtain ⟨h1, h2⟩ := ins_new u r fun g hg => h g (List.mem_cons_of_mem _ hg)
    rw [ins, fidx, h0, if_neg Bool.false_ne_true, if_neg Bool.false_ne_true, h1, h2]
    exact ⟨rfl, rfl⟩
theorem ins_old (u : Ct) : ∀ (l : List Ct) (j : Nat) (f : Ct), l[j]? = some f → sk f u = true → NoTwo l → ins l u = l.set j (if u.d < f.d then u else f)
  | [], _, _, h, _, _ => by simp at h
  | g :: r, 0, f, h, hs, _ => by
    simp at h
    subst h
    rw [ins, if_pos hs]
    rfl
  | g :: r, j + 1, f, h, hs, hn => by
    obtain ⟨h1, h2⟩ := List.pairwise_cons.mp hn
    have hj : r[j]? = some f := by simpa using h
    have hg := h1 f (List.mem_of_getElem? hj)
    have hg' : sk g u = false := by rw [← sk_cong2 hs]; exact hg
    rw [ins, hg', if_neg Bool.false_ne_true, ins_old u r j f hj hs h2]
    rfl
/-- a constraint's key -/
def Ct.key (t : Ct) : NestedKey := match t.k with
  | .ge => .tup [.text "ge", .tup (t.c.map NestedKey.num)]
  | .eq => .tup [.text "eq", .tup (t.e.map NestedKey.num)]
  | .div m => .tup [.text "div", .num m, .tup (t.e.map NestedKey.num)]
theorem e_inj {c c' : List Int} {d d' : Int} (h : c ++ [d] = c' ++ [d']) : c = c' ∧ d = d' := by
  have := List.append_inj' h rfl
  exact ⟨this.1, by simpa using this.2⟩
theorem key_sk (f u : Ct) : decide (f.key = u.key) = sk f u := by
  have n1 : ¬ ((("ge" : Str)) = "eq") := by decide +kernel
  have n2 : ¬ ((("ge" : Str)) = "div") := by decide +kernel
  have n3 : ¬ ((("eq" : Str)) = "div") := by decide +kernel
  obtain ⟨k, c, d⟩ := f
  obtain ⟨k', c', d'⟩ := u
  cases k <;> cases k' <;> simp only [Ct.key, sk, Ct.e]
  · refine decide_eq_decide.mpr ⟨fun h => ?_, fun h => by rw [h]⟩
    injection h with h
    injection h with _ h
    injection h with h _
    injection h with h
    exact nums_inj h
  · refine decide_eq_false fun h => ?_
    injection h with h
    injection h with h _
    injection h with h
    exact n1 h
  · refine decide_eq_false fun h => ?_
    injection h with h
    injection h with h _
    injection h with h
    exact n2 h
  · refine decide_eq_false fun h => ?_
    injection h with h
    injection h with h _
    injection h with h
    exact n1 h.symm
  · refine decide_eq_decide.mpr ⟨fun h => ?_, fun h => by rw [h.1, h.2]⟩
    injection h with h
    injection h with _ h
    injection h with h _
    injection h with h
    exact e_inj (nums_inj h)
  · refine decide_eq_false fun h => ?_
    injection h with h
    injection h with h _
    injection h with h
    exact n3 h
  · refine decide_eq_false fun h => ?_
    injection h with h
    injection h with h _
    injection h with h
    exact n2 h.symm
  · refine decide_eq_false fun h => ?_
    injection h with h
    injection h with h _
    injection h with h
    exact n3 h.symm
  · refine decide_eq_decide.mpr ⟨fun h => ?_, fun h => by rw [h.1, h.2.1, h.2.2]⟩
    injection h with h
    injection h with _ h
    injection h with h1 h
    injection h1 with h1
    injection h with h _
    injection h with h
    exact ⟨h1, e_inj (nums_inj h)⟩

def fnd (u : Ct) : List Ct → Option Nat
  | [] => none
  | f :: r => if sk f u then some 0 else (fnd u r).map (· + 1)
theorem fnd_none (u : Ct) : ∀ l : List Ct, fnd u l = none → ∀ f ∈ l, sk f u = false
  | [], _, _, h => by cases h
  | g :: r, h, f, hf => by
    rw [fnd] at h
    by_cases hs : sk g u = true
    · rw [if_pos hs] at h
      cases h
    · rw [if_neg hs] at h
      rcases List.mem_cons.mp hf with rfl | hf
      · exact Bool.eq_false_iff.mpr hs
      · cases hq : fnd u r with
        | none => exact fnd_none u r hq f hf
        | some j => rw [hq] at h; cases h
theorem fnd_some (u : Ct) : ∀ (l : List Ct) (j : Nat), fnd u l = some j → ∃ f, l[j]? = some f ∧ sk f u = true
  | [], _, h => by cases h
  | g :: r, j, h => by
    rw [fnd] at h
    by_cases hs : sk g u = true
    · rw [if_pos hs] at h
      cases h
      exact ⟨g, rfl, hs⟩
    · rw [if_neg hs] at h
      cases hq : fnd u r with
      | none => rw [hq] at h; cases h
      | some i =>
        rw [hq] at h
        cases h
        obtain ⟨f, hf, hk⟩ := fnd_some u r i hq
        exact ⟨f, by simpa using hf, hk⟩
/-- the dict of places beside the rows found -/
def Al : Nat → List NE → List (Addr × Ct) → Prop
  | _, [], [] => True
  | o, x :: xs, f :: fs => x.1 = f.2.key ∧ x.2.2 = .int ((o : Nat) : Int) ∧ Al (o + 1) xs fs
  | _, _, _ => False
theorem al_look (u : Ct) : ∀ (xs : List NE) (fs : List (Addr × Ct)) (o : Nat), Al o xs fs → lookN xs u.key = (fnd u (fs.map (·.2))).map fun j => V.int ((o + j : Nat) : Int)
  | [], [], _, _ => rfl
  | [], _ :: _, _, h => h.elim
  | _ :: _, [], _, h => h.elim
  | x :: xs, f :: fs, o, h => by
    obtain ⟨h1, h2, h3⟩ := h
    have ih := al_look u xs fs (o + 1) h3
    unfold lookN at ih ⊢
    rw [List.find?_cons, List.map_cons, fnd, h1, key_sk]
    by_cases hs : sk f.2 u = true
    · rw [hs, if_pos rfl]
      show some x.2.2 = _
      rw [h2]
      rfl
    · rw [if_neg hs, Bool.eq_false_iff.mpr hs]
      dsimp only
      rw [ih]
      cases fnd u (fs.map (·.2)) with
      | none => rfl
      | some j =>
        show some (V.int ((o + 1 + j : Nat) : Int)) = some (V.int ((o + (j + 1) : Nat) : Int))
        rw [show o + 1 + j = o + (j + 1) by omega]
theorem al_len : ∀ (xs : List NE) (fs : List (Addr × Ct)) (o : Nat), Al o xs fs → xs.length = fs.length
  | [], [], _, _ => rfl
  | [], _ :: _, _, h => h.elim
  | _ :: _, [], _, h => h.elim
  | _ :: xs, _ :: fs, o, h => congrArg (· + 1) (al_len xs fs (o + 1) h.2.2)
theorem al_snoc (a b : Addr) (u : Ct) : ∀ (xs : List NE) (fs : List (Addr × Ct)) (o : Nat), Al o xs fs → Al o (xs ++ [(u.key, b, V.int ((o + fs.length : Nat) : Int))]) (fs ++ [(a, u)])
  | [], [], _, _ => ⟨rfl, rfl, trivial⟩
  | [], _ :: _, _, h => h.elim
  | _ :: _, [], _, h => h.elim
  | x :: xs, f :: fs, o, h => by
    have ih := al_snoc a b u xs fs (o + 1) h.2.2
    refine ⟨h.1, h.2.1, ?_⟩
    rw [show o + (f :: fs).length = o + 1 + fs.length by simp only [List.length_cons]; omega]
    exact ih
theorem al_set (a : Addr) (u : Ct) : ∀ (xs : List NE) (fs : List (Addr × Ct)) (o j : Nat) (f : Addr × Ct), Al o xs fs → fs[j]? = some f → u.key = f.2.key → Al o xs (fs.set j (a, u))
  | [], [], _, _, _, _, h, _ => by simp at h
  | [], _ :: _, _, _, _, h, _, _ => h.elim
  | _ :: _, [], _, _, _, h, _, _ => h.elim
  | x :: xs, g :: fs, o, 0, f, h, hj, hk => by
    simp at hj
    subst hj
    exact ⟨h.1.trans hk.symm, h.2.1, h.2.2⟩
  | x :: xs, g :: fs, o, j + 1, f, h, hj, hk => ⟨h.1, h.2.1, al_set a u xs fs (o + 1) j f h.2.2 (by simpa using hj) hk⟩
theorem lexLt_last (c : List Int) (x y : Int) : HT.lexLt (c ++ [x]) (c ++ [y]) = decide (x < y) := by
  induction c with
  | nil =>
    rw [List.nil_append, List.nil_append, HT.lexLt_cons]
    by_cases h : x = y
    · rw [if_pos h, HT.lexLt_nil_nil]
      exact (decide_eq_false (by omega)).symm
    · rw [if_neg h]
  | cons a c ih => rw [List.cons_append, List.cons_append, HT.lexLt_cons, if_pos rfl, ih]
theorem sk_key {f u : Ct} (h : sk f u = true) : f.key = u.key := by
  have := key_sk f u
  rw [h] at this
  exact of_decide_eq_true this
section
variable {w : World} {K : PySem.W.Frag} {mg : Str → Option Value} {base : Heap} {A : Ad}
def sp_reduced_rows (K : PySem.W.Frag) : Sp := fun vs H Q _ => ∃ (n : Nat) (ra : Addr) (rs : List Rw), vs = [.int (n : Int), .ref ra] ∧ SqT K H ra (rv rs) ∧ RwOk K H rs ∧ (∀ r ∈ rs, Wf n r.2) ∧ n ≤ 90 ∧ rs.length ≤ 5000 ∧
  ∀ H' rb ss, Same H H' → SqT K H' rb (rv ss) → RwOk K H' ss → cts ss = rrows n [] (cts rs) → Q (.ref rb) H'
def sp_System_reduced (A : Ad) (K : PySem.W.Frag) : Sp := fun vs H Q _ => ∃ (a dx ra : Addr) (n : Nat) (rs : List Rw), vs = [.ref a] ∧ Sy K A.C_System H a dx ra n rs ∧ (∀ r ∈ rs, Wf n r.2) ∧ n ≤ 90 ∧ rs.length ≤ 5000 ∧
  ∀ H' b dy rb ss, Same H H' → Sy K A.C_System H' b dy rb n ss → cts ss = rrows n [] (cts rs) → Q (.ref b) H'
def sp_System_is_impossible (A : Ad) (K : PySem.W.Frag) : Sp := fun vs H Q _ => ∃ (a dx ra : Addr) (n : Nat) (rs : List Rw), vs = [.ref a] ∧ Sy K A.C_System H a dx ra n rs ∧ n ≤ 90 ∧ ∀ H', Same H H' → Q (.bl (decide (cts rs = [imp n]))) H'
/-! ### constraints compared as data -/
theorem eqv_ints : ∀ e f : List Int, PyData.eqvAll (e.map PyData.int) (f.map PyData.int) = decide (e = f)
  | [], [] => rfl
  | [], _ :: _ => rfl
  | _ :: _, [] => rfl
  | x :: e, y :: f => by
    rw [List.map_cons, List.map_cons, PyData.eqvAll, eqv_ints e f, PyData.eqv]
    by_cases h : x = y
    · subst h
      by_cases h2 : e = f
      · subst h2
        simp
      · simp [h2]
    · simp [h]
theorem eqv_ct (t u : Ct) : PyData.eqv t.pd u.pd = decide (t = u) := by
  have n1 : ((("ge" : Str)) == ("eq" : Str)) = false := by decide +kernel
  have n2 : ((("ge" : Str)) == ("div" : Str)) = false := by decide +kernel
  have n3 : ((("eq" : Str)) == ("div" : Str)) = false := by decide +kernel
  have n4 : ((("eq" : Str)) == ("ge" : Str)) = false := by decide +kernel
  have n5 : ((("div" : Str)) == ("ge" : Str)) = false := by decide +kernel
  have n6 : ((("div" : Str)) == ("eq" : Str)) = false := by decide +kernel
  have ee : ∀ (c c' : List Int) (d d' : Int), decide (c ++ [d] = c' ++ [d']) = decide (c = c' ∧ d = d') := fun c c' d d' => decide_eq_decide.mpr ⟨e_inj, fun h => by rw [h.1, h.2]⟩
  obtain ⟨k, c, d⟩ := t
  obtain ⟨k', c', d'⟩ := u
  cases k <;> cases k' <;> simp only [Ct.pd, Kd.pd, Ct.e, PyData.eqv, PyData.eqvAll, eqv_ints, ee, n1, n2, n3, n4, n5, n6, Bool.false_and, Bool.and_true, beq_self_eq_true, Bool.true_and, Bool.and_false]
  all_goals first
    | (refine decide_eq_decide.mpr ⟨fun h => by rw [h.1, h.2], fun h => by injection h with _ h1 h2; exact ⟨h1, h2⟩⟩)
    | (symm; refine decide_eq_false fun h => ?_; injection h with h; cases h)
    | skip
  rename_i m m'
  by_cases hm : m = m'
  · subst hm
    rw [beq_self_eq_true, Bool.true_and]
    exact decide_eq_decide.mpr ⟨fun h => by rw [h.1, h.2], fun h => by injection h with _ h1 h2; exact ⟨h1, h2⟩⟩
  · rw [beq_eq_false_iff_ne.mpr hm, Bool.false_and]
    symm
    refine decide_eq_false fun h => hm ?_
    injection h with h
    injection h
theorem eqv_cts : ∀ ts us : List Ct, PyData.eqvAll (ts.map Ct.pd) (us.map Ct.pd) = decide (ts = us)
  | [], [] => rfl
  | [], _ :: _ => rfl
  | _ :: _, [] => rfl
  | x :: e, y :: f => by
    rw [List.map_cons, List.map_cons, PyData.eqvAll, eqv_cts e f, eqv_ct]
    by_cases h : x = y
    · subst h
      by_cases h2 : e = f
      · subst h2
        simp
      · simp [h2]
    · simp [h]
def ctsD (ts : List Ct) : PyData := .tuple (ts.map Ct.pd)
theorem eqv_ctsD (ts us : List Ct) : PyData.eqv (ctsD ts) (ctsD us) = decide (ts = us) := by rw [ctsD, ctsD, PyData.eqv, eqv_cts]
theorem lay_cts : ∀ ts : List Ct, PyData.canLayAll0 (ts.map Ct.pd) = true
  | [] => rfl
  | x :: r => by rw [List.map_cons, PyData.canLayAll0, lay_ct, lay_cts r]; rfl
theorem depth_cts : ∀ ts : List Ct, PyData.depthAll (ts.map Ct.pd) ≤ 2
  | [] => by decide
  | x :: r => by
    rw [List.map_cons, PyData.depthAll]
    have := depth_ct x
    have := depth_cts r
    omega
theorem shaped_ctsD (ts : List Ct) : SeqAt.shaped (ctsD ts) = true := by
  unfold SeqAt.shaped ctsD
  rw [PyData.canLay0, lay_cts, PyData.depth, decide_eq_true (by have := depth_cts ts; omega)]
  rfl
theorem dp_rows {K : PySem.W.Frag} {H : Hp} : ∀ {rs : List Rw}, RwOk K H rs → DpAll K H (rv rs) ((cts rs).map Ct.pd)
  | [], _ => .nil
  | r :: rs, h => .cons (dp_ct (h r List.mem_cons_self)) (dp_rows fun x hx => h x (List.mem_cons_of_mem _ hx))
theorem dp_rowsT {K : PySem.W.Frag} {H : Hp} {a : Addr} {rs : List Rw} (hT : SqT K H a (rv rs)) (h : RwOk K H rs) : Dp K H (.ref a) (ctsD (cts rs)) := .tup hT (dp_rows h)
/-! ### keys in memory -/
theorem nk_ints {K : PySem.W.Frag} {H : Hp} : ∀ e : List Int, NkAll K H (e.map V.int) (e.map NestedKey.num)
  | [] => .nil
  | x :: r => .cons (.int x) (nk_ints r)
theorem key_depth (t : Ct) : t.key.depth ≤ 8 := by
  obtain ⟨k, c, d⟩ := t
  cases k <;> simp only [Ct.key, NestedKey.depth, NestedKey.depthAll, depth_nums] <;> decide
theorem Nk.but {K : PySem.W.Frag} {x : Addr} {H H' : Hp} {o : HO} (s : SBut x H H') (hx : H x = some o) (no : NoTup o) {v : V} {k : NestedKey} (h : Nk K H v k) : Nk K H' v k := by
  have : ∀ (k : NestedKey), (∀ v, Nk K H v k → Nk K H' v k) := by
    intro k
    refine NestedKey.rec (motive_1 := fun k => ∀ v, Nk K H v k → Nk K H' v k) (motive_2 := fun ks => ∀ vs, NkAll K H vs ks → NkAll K H' vs ks) ?_ ?_ ?_ ?_ ?_ ?_ k
    · intro v h; cases h; exact .non
    · intro i v h; cases h; exact .int i
    · intro z v h; cases h; exact .str z
    · intro ks ih v h
      cases h with
      | tup hT hA => exact .tup (sqT_but s hx no hT) (ih _ hA)
    · intro vs h; cases h; exact .nil
    · intro k ks i1 i2 vs h
      cases h with
      | cons h1 h2 => exact .cons (i1 _ h1) (i2 _ h2)
  exact this k v h
theorem nk_ct {K : PySem.W.Frag} {H : Hp} {x : Addr} {t : Ct} (hk : t.k ≠ .ge) (h : CtT K H x t) : Nk K H (.ref x) t.key := by
  obtain ⟨a, h1, h2⟩ := h
  have ne : Nk K H (.ref a) (.tup (t.e.map NestedKey.num)) := .tup h2 (nk_ints t.e)
  obtain ⟨k, c, d⟩ := t
  cases k with
  | ge => exact absurd rfl hk
  | eq => exact .tup h1 (.cons (.str _) (.cons ne .nil))
  | div m => exact .tup h1 (.cons (.str _) (.cons (.int m) (.cons ne .nil)))
theorem ok_reduced_rows (T : Txt K mg A) : FnOk P w K mg base CX0 4 A.f_reduced_rows A.d_reduced_rows ["variables", "rows"] (sp_reduced_rows K) := by
  have G_reduced_constraint := ok_reduced_constraint (w := w) (base := base) T
  have G_impossible := ok_impossible (w := w) (base := base) T
  refine T.F_reduced_rows.ok sc_reduced_rows (fun vs H Q E h => ?_) (fun cdv A' outer s H vs Q E hr h => ?_)
  · obtain ⟨n, ra, rs, rfl, _⟩ := h
    rfl
  · obtain ⟨n, ra, rs, rfl, hT, hO, hW, hn, hl, q⟩ := h
    -- the key at hand: its place, and the constraint put there
    have ⟨R, hR, kR⟩ : ∃ R, PSs (cxOf CX0 P w K mg base ["variables", "rows", "found", "places", "row", "reduced", "key", "place"] "reduced_rows" (defScope s_reduced_rows) A.f_reduced_rows cdv A' outer s H E).nox ((ifB (stAt (forB (stAt (defBody s_reduced_rows) 2)) 2)).drop 1) R ∧
        ∀ (D : Ends) (H1 : Hp) (fl pl y kb : Addr) (u : Ct) (fs : List Rw) (xs : List NE) (v4 v7 : Option V),
          Same H H1 → H fl = none → H pl = none → fl ≠ pl → CtT K H1 y u → Nk K H1 (.ref kb) u.key → H1 fl = some (.lst (rv fs)) → RwOk K H1 fs → H1 pl = some (NDct P w pl xs) → KeysIn K H1 xs → Al 0 xs fs → NoTwo (cts fs) → fs.length ≤ 5000 →
          (∀ H2 gs zs v7', Same H H2 → H2 fl = some (.lst (rv gs)) → RwOk K H2 gs → H2 pl = some (NDct P w pl zs) → KeysIn K H2 zs → Al 0 zs gs → cts gs = ins (cts fs) u → (∀ g ∈ gs, g ∈ fs ∨ g.2 = u) → gs.length ≤ fs.length + 1 →
            D.nx [some (.int (n : Int)), some (.ref ra), some (.ref fl), some (.ref pl), v4, some (.ref y), some (.ref kb), v7'] H2) →
          R D [some (.int (n : Int)), some (.ref ra), some (.ref fl), some (.ref pl), v4, some (.ref y), some (.ref kb), v7] H1 := by
      refine ⟨_, (pss_cons (ps_set (i := 7) sc_reduced_rows.nd rfl (Or.inl rfl) (pe_nset (pv 3) (pv 6) (pe_callB call_len_seq (by rfl) T.b_len (by decide +kernel) (pa_cons (pv 2) pa_nil)) ⟨by rfl, by rfl, by rfl, by rfl⟩ (units9 hr))) 
    (pss_one (ps_if (pt_cmpR op_eq (pv 7) (pe_callB call_len_seq (by rfl) T.b_len (by decide +kernel) (pa_cons (pv 2) pa_nil)) (nomark _)) 
      (pss_one (ps_expr (pe_bm PySem.F.plainAttrs_list PySem.F.slot_list_append PySem.F.type_list_append mt_append (pv 2) (pa_cons (pv 5) pa_nil)))) 
      (pss_one (ps_asg (pe_callB (call_minQ rfl hr.units) (by rfl) T.b_min (by decide +kernel) (pa_cons (pe_ix ix_list (pv 2) (pv 7) (fun _ _ => rfl)) (pa_cons (pv 5) pa_nil))) (pg_sub (pv 2) (pv 7) set_list)))))), fun D H1 fl pl y kb u fs xs v4 v7 sA nfl npl nfp hu hk efl ho epl hks al two hf k => ?_⟩
      walk_at "wp"
      have lk := al_look u xs fs 0 al
      have xl := al_len xs fs 0 al
      refine ⟨⟨xs, epl⟩, _, .inl (SqL.of efl), xs, epl, hks, u.key, hk, key_depth u, by rw [xl]; exact smallM (by omega), ?_, ?_⟩
      · intro v hv
        rw [lk] at hv
        cases hq : fnd u (fs.map (·.2)) with
        | none => rw [hq] at hv; cases hv
        | some j =>
          rw [hq] at hv
          cases hv
          obtain ⟨f, hf', hs⟩ := fnd_some u _ j hq
          rw [List.getElem?_map] at hf'
          cases hfj : fs[j]? with
          | none => rw [hfj] at hf'; cases hf'
          | some r =>
            rw [hfj] at hf'
            cases hf'
            have hj : j < fs.length := (List.getElem?_eq_some_iff.mp hfj).1
            have hsk : sk r.2 u = true := hs
            refine ⟨_, .inl (SqL.of efl), rfl, ?_⟩
            rw [if_neg (by rw [rv, List.length_map, decide_eq_true_eq, V.int.injEq]; omega)]
            dsimp only
            rw [Nat.zero_add]
            have rok := ho r (List.mem_of_getElem? hfj)
            have ats : atI (rv fs) (j : Int) = some (.ref r.1) := atI_nat (by rw [rv, List.getElem?_map, hfj]; rfl)
            have ixj : ixN (rv fs).length (j : Int) = some j := by
              have hl : (rv fs).length = fs.length := by rw [rv, List.length_map]
              unfold ixN
              rw [hl]
              simp [hj]
            refine ⟨_, _, rfl, SqL.of efl, _, ats, ?_⟩
            have kr : r.2.key = u.key := sk_key hsk
            have old := ins_old u (cts fs) j r.2 (by rw [cts, List.getElem?_map, hfj]; rfl) hsk two
            -- what stands behind the store
            have fin : ∀ (z : Addr) (c : Ct), CtT K H1 z c → c = (if u.d < r.2.d then u else r.2) → c.key = u.key → ((z, c) = r ∨ c = u) → D.nx [some (.int (n : Int)), some (.ref ra), some (.ref fl), some (.ref pl), v4, some (.ref y), some (.ref kb), some (.int ((j : Nat) : Int))] (upd H1 fl (.lst ((rv fs).set j (.ref z)))) := fun z c hc ec kc hzc => by
              have sb : SBut fl H1 (upd H1 fl (.lst ((rv fs).set j (.ref z)))) := SBut.upd
              have gl : (rv fs).set j (.ref z) = rv (fs.set j (z, c)) := by
                rw [rv, rv, List.map_set]
              refine k _ (fs.set j (z, c)) xs _ (SBut.same sb sA nfl) (by rw [upd_same, gl]) (fun g hg => ?_) (sb _ _ (Ne.symm nfp) epl) (fun x hx => ⟨Nk.but sb efl noTup_lst (hks x hx).1, (hks x hx).2⟩) (al_set z c xs fs 0 j r al hfj (kc.trans kr.symm)) ?_ (fun g hg => ?_) (by rw [List.length_set]; omega)
              · rcases List.mem_or_eq_of_mem_set hg with hg | rfl
                · exact (ho g hg).but sb efl noTup_lst
                · exact hc.but sb efl noTup_lst
              · rw [old, cts, List.map_set, ← ec]
                rfl
              · rcases List.mem_or_eq_of_mem_set hg with hg | rfl
                · exact .inl hg
                · rcases hzc with e | e
                  · rw [e]
                    exact .inl (List.mem_of_getElem? hfj)
                  · exact .inr e
            by_cases hge : r.2.k = .ge
            · have uge : u.k = .ge := (sk_k hsk).symm.trans hge
              obtain ⟨p1, a1, a2⟩ := rok
              obtain ⟨p2, b1, b2⟩ := hu
              have rok : CtT K H1 r.1 r.2 := ⟨p1, a1, a2⟩
              have hu : CtT K H1 y u := ⟨p2, b1, b2⟩
              rw [hge] at a1
              rw [uge] at b1
              refine .inl ⟨r.1, y, p1, p2, Str.ofString "ge", r.2.e, u.e, rfl, a1, b1, a2, b2, ?_⟩
              refine ⟨_, _, rfl, efl, _, ixj, ?_⟩
              rw [Ct.e, Ct.e, sk_c hsk, lexLt_last]
              by_cases hd : u.d < r.2.d
              · rw [if_pos (decide_eq_true hd)]
                exact fin y u hu (if_pos hd).symm rfl (.inr rfl)
              · rw [if_neg (by rw [decide_eq_true_eq]; exact hd)]
                exact fin r.1 r.2 rok (if_neg hd).symm kr (.inl rfl)
            · have e := sk_eq hsk hge
              obtain ⟨ks, ek⟩ : ∃ ks, u.key = .tup ks := by
                obtain ⟨uk, uc, ud⟩ := u
                cases uk <;> exact ⟨_, rfl⟩
              have dk : NestedKey.depthAll ks ≤ 8 := by
                have hd := key_depth u
                rw [ek, NestedKey.depth] at hd
                omega
              have ka := nk_ct hge rok
              have kb' := nk_ct (fun z => hge (e ▸ z)) hu
              rw [kr, ek] at ka
              rw [ek] at kb'
              refine .inr ⟨r.1, y, ks, rfl, ka, kb', dk, ?_⟩
              refine ⟨_, _, rfl, efl, _, ixj, ?_⟩
              exact fin r.1 r.2 rok (by rw [e]; simp) kr (.inl rfl)
      · intro hv
        rw [lk] at hv
        have hq : fnd u (fs.map (·.2)) = none := by
          cases hq : fnd u (fs.map (·.2)) with
          | none => rfl
          | some j => rw [hq] at hv; cases hv
        have hno := fnd_none u _ hq
        have sb : SBut pl H1 (upd H1 pl (NDct P w pl (xs ++ [(u.key, kb, V.int ((rv fs).length : Int))]))) := SBut.upd
        have efl2 := sb _ _ nfp efl
        refine ⟨_, .inl (SqL.of efl2), ?_⟩
        rw [if_pos (decide_eq_true rfl)]
        refine ⟨.inl ⟨rfl, _, SqL.of efl2⟩, _, efl2, by rw [rv, List.length_map]; exact smallM (by omega), ?_⟩
        have sb2 : SBut fl (upd H1 pl (NDct P w pl (xs ++ [(u.key, kb, V.int ((rv fs).length : Int))]))) (upd (upd H1 pl (NDct P w pl (xs ++ [(u.key, kb, V.int ((rv fs).length : Int))]))) fl (.lst (rv fs ++ [V.ref y]))) := SBut.upd
        have eg : rv fs ++ [V.ref y] = rv (fs ++ [(y, u)]) := by rw [rv, rv, List.map_append]; rfl
        obtain ⟨en, _⟩ := ins_new u (cts fs) hno
        refine k _ (fs ++ [(y, u)]) (xs ++ [(u.key, kb, V.int ((rv fs).length : Int))]) _ (SBut.same sb2 (SBut.same sb sA npl) nfl) (by rw [upd_same, eg]) (fun g hg => ?_) (by rw [upd_ne (Ne.symm nfp), upd_same]) (fun x hx => ?_) ?_ ?_ (fun g hg => ?_) (by rw [List.length_append]; exact Nat.le_refl _)
        · have two' : ∀ c, CtT K H1 g.1 c → CtT K _ g.1 c := fun c hc => (hc.but sb epl noTup_ext).but sb2 efl2 noTup_lst
          rcases List.mem_append.mp hg with hg | hg
          · exact two' _ (ho g hg)
          · rw [List.mem_singleton.mp hg] at two' ⊢
            exact two' _ hu
        · have two' : ∀ v kk, Nk K H1 v kk → Nk K _ v kk := fun v kk hk => Nk.but sb2 efl2 noTup_lst (Nk.but sb epl noTup_ext hk)
          rcases List.mem_append.mp hx with hx | hx
          · exact ⟨two' _ _ (hks x hx).1, (hks x hx).2⟩
          · rw [List.mem_singleton.mp hx]
            exact ⟨two' _ _ hk, key_depth u⟩
        · have := al_snoc y kb u xs fs 0 al
          rw [Nat.zero_add] at this
          rw [rv, List.length_map]
          exact this
        · rw [en, cts, List.map_append]
          rfl
        · rcases List.mem_append.mp hg with hg | hg
          · exact .inl hg
          · exact .inr (by rw [List.mem_singleton.mp hg])
    refine ⟨_, (pss_cons (ps_set (i := 2) sc_reduced_rows.nd rfl (Or.inl rfl) (pe_lst pa_nil)) 
    (pss_cons (ps_set (i := 3) sc_reduced_rows.nd rfl (Or.inl rfl) pe_dnewN) 
    (pss_cons (ps_for PassesOwn.never rfl (pi_tup (pv 1)) (pg_name (i := 4) sc_reduced_rows.nd rfl (Or.inl rfl)) 
      (pss_cons (ps_set (i := 5) sc_reduced_rows.nd rfl (Or.inl rfl) (pe_call G_reduced_constraint hr (by rfl) T.g_reduced_constraint T.F_reduced_constraint.kp T.B_reduced_constraint .nil pass0 (pa_cons (pv 4) pa_nil))) 
      (pss_cons (ps_if (pt_cmpR (op_eqD hr.units) (pv 5) (pe_call G_impossible (hr.mono (by decide)) (by rfl) T.g_impossible T.F_impossible.kp T.B_impossible .nil pass0 (pa_cons (pv 0) pa_nil)) (nomark _)) 
        (pss_one (ps_ret (pe_tup (pa_cons (pv 5) pa_nil)))) pss_nil) 
      (pss_one (ps_if (pt_cmpR op_notN (pv 5) pe_non (nomark _)) 
        (pss_cons (ps_set (i := 6) sc_reduced_rows.nd rfl (Or.inl rfl) (pe_ifExp (pt_cmpR op_eq (pe_ix ix_tup (pv 5) pe_int (fun _ _ => rfl)) pe_str (nomark _)) (pe_tup (pa_cons pe_str (pa_cons (pe_slice sl_tupA (pe_ix ix_tup (pv 5) pe_int (fun _ _ => rfl)) po_none (po_some (pe_un un_neg pe_int))) pa_nil))) (pv 5))) hR) pss_nil))))) 
    (pss_one (ps_ret (pe_callTy call_tuple_of (by rfl) T.b_tuple (by decide +kernel) (pa_cons (pv 2) pa_nil))))))), ?_⟩
    walk_at "wp"
    refine ⟨Nat.zero_le _, fun fl nfl pl npl => ⟨⟨_, sameT ((same_upd nfl).trans (same_upd npl)) hT⟩, ?_⟩⟩
    have npf : fl ≠ pl := fun z => by rw [← z, upd_same] at npl; cases npl
    have npl0 : H pl = none := by rw [← npl, upd_ne (Ne.symm npf)]
    have s0 : Same H (upd (upd H fl (.lst [])) pl (NDct P w pl [])) := (same_upd nfl).trans (same_upd npl)
    obtain ⟨Pv, hPv⟩ : ∃ Pv : Nat → St → Hp → Prop, ∀ i σ H', Pv i σ H' ↔ ∃ (fs : List Rw) (xs : List NE) (v4 v5 v6 v7 : Option V), σ = [some (.int (n : Int)), some (.ref ra), some (.ref fl), some (.ref pl), v4, v5, v6, v7] ∧ Same H H' ∧ H' fl = some (.lst (rv fs)) ∧ RwOk K H' fs ∧ H' pl = some (NDct P w pl xs) ∧ KeysIn K H' xs ∧ Al 0 xs fs ∧
      NoTwo (cts fs) ∧ fs.length ≤ i ∧ (∀ f ∈ fs, Wf n f.2) ∧ rrows n (cts fs) ((cts rs).drop i) = rrows n [] (cts rs) := ⟨_, fun _ _ _ => Iff.rfl⟩
    refine loop_it (walk_tup (xs := rv rs)) Pv ((hPv _ _ _).mpr ⟨[], [], _, _, _, _, rfl, s0, by rw [upd_ne npf, upd_same]; rfl, (fun r hr' => by cases hr'), upd_same, (fun x hx => by cases hx), trivial, List.Pairwise.nil, Nat.zero_le _, (fun f hf => by cases hf), by rw [List.drop_zero]; rfl⟩) (fun i σ H' _ pw => by
      obtain ⟨fs, xs, v4, v5, v6, v7, rfl, s1, _⟩ := (hPv _ _ _).mp pw
      exact sameT s1 hT) ?_ ?_
    · intro i x σ H1 H2 hi pw yy
      obtain ⟨fs, xs, v4, v5, v6, v7, rfl, s1, efl, ho, epl, hks, al, two, fl_, wf, er⟩ := (hPv _ _ _).mp pw
      obtain ⟨rfl, e⟩ := yat_at yy
      rw [rv, List.length_map] at hi
      rw [rv, List.getElem?_map, List.getElem?_eq_getElem hi] at e
      cases e
      have hmem : rs[i] ∈ rs := List.getElem_mem hi
      generalize hr0 : rs[i] = r at hmem
      have hdrop : (cts rs).drop i = r.2 :: (cts rs).drop (i + 1) := by
        rw [List.drop_eq_getElem_cons (by rw [cts, List.length_map]; exact hi)]
        congr 1
        rw [← hr0]
        simp [cts]
      rw [hdrop, rrows] at er
      have wr := hW r hmem
      walk_at "wp"
      refine ⟨r.1, r.2, rfl, (hO r hmem).same s1, wr.ok, wr.nz, fun H3 v s3 hR3 => ?_⟩
      refine ⟨n, rfl, hn, fun H4 z s4 hz => ?_⟩
      have s14 := s1.trans (s3.trans s4)
      have s34 := s3.trans s4
      cases hq : red r.2 with
      | none =>
        rw [hq] at hR3 er
        cases hR3
        refine ⟨.none, (imp n).pd, .non, dp_ct hz, rfl, shaped_ct _, ?_⟩
        rw [show PyData.eqv .none (imp n).pd = false from rfl]
        refine ⟨false, rfl, ?_⟩
        walk_at "wp"
        exact (hPv _ _ _).mpr ⟨fs, xs, _, _, _, _, rfl, s14, s34 _ _ efl, ho.same s34, s34 _ _ epl, hks.same s34, al, two, by omega, wf, er⟩
      | some u =>
        rw [hq] at hR3 er
        obtain ⟨y, rfl, hu3⟩ := hR3
        have hu := hu3.same s4
        refine ⟨u.pd, (imp n).pd, dp_ct hu, dp_ct hz, shaped_ct _, shaped_ct _, ?_⟩
        rw [eqv_ct]
        refine ⟨decide (u = imp n), rfl, ?_⟩
        dsimp only at er
        by_cases hi0 : u = imp n
        · rw [if_pos hi0] at er
          rw [if_pos (decide_eq_true hi0)]
          refine ⟨by decide, fun p np => ?_⟩
          exact q _ p [(y, u)] (s14.trans (same_upd np)) (SqT.of upd_same) (fun g hg => by rw [List.mem_singleton.mp hg]; exact hu.same (same_upd np)) (by rw [← er]; rfl)
        · rw [if_neg hi0] at er
          rw [if_neg (by rw [decide_eq_true_eq]; exact hi0)]
          walk_at "wp"
          have goal : ∀ (H5 : Hp) (kb : Addr) (v7' : Option V) (D : Ends), Same H4 H5 → Nk K H5 (.ref kb) u.key → (∀ σ H', Pv (i + 1) σ H' → D.nx σ H') → R D [some (.int (n : Int)), some (.ref ra), some (.ref fl), some (.ref pl), some (.ref r.1), some (.ref y), some (.ref kb), v7'] H5 := fun H5 kb v7' D s5 hk hD => by
            have s35 := s34.trans s5
            refine kR D H5 fl pl y kb u fs xs _ _ (s14.trans s5) nfl npl0 npf (hu.same s5) hk (s35 _ _ efl) (ho.same s35) (s35 _ _ epl) (hks.same s35) al two (by omega) fun H6 gs zs v7'' s6 e1 o1 e2 k2 al2 ei gm gl => hD _ _ ((hPv _ _ _).mpr ⟨gs, zs, _, _, _, _, rfl, s6, e1, o1, e2, k2, al2, by rw [ei]; exact ins_two two, by omega, fun g hg => ?_, by rw [ei]; exact er⟩)
            rcases gm g hg with h | h
            · exact wf g h
            · rw [h]
              exact wr.red hq
          obtain ⟨ea, h1, h2⟩ := hu
          have hu : CtT K H4 y u := ⟨ea, h1, h2⟩
          refine ⟨_, h1, ?_⟩
          by_cases hge : u.k = .ge
          · rw [hge] at h1 ⊢
            refine ⟨_, rfl, rfl, ?_⟩
            walk_at "wp"
            refine ⟨_, h1, _, rfl, ?_⟩
            rw [Ct.e, List.map_append] at h2
            refine sl_init h2 fun H5 kc s5 hkc => ⟨by decide, fun kb nkb => ?_⟩
            refine goal _ kb _ _ (s5.trans (same_upd nkb)) ?_ (fun _ _ h => h)
            have : u.key = .tup [.text "ge", .tup (u.c.map NestedKey.num)] := by
              obtain ⟨k, c, d⟩ := u
              dsimp only at hge
              subst hge
              rfl
            rw [this]
            exact .tup (SqT.of upd_same) (.cons (.str _) (.cons (.tup (sameT (same_upd nkb) hkc) (nk_ints _)) .nil))
          · have n1 : atI (u.k.v ea) 0 = some (.str (match u.k with | .ge => Str.ofString "ge" | .eq => Str.ofString "eq" | .div _ => Str.ofString "div")) := by cases u.k <;> rfl
            refine ⟨_, n1, rfl, ?_⟩
            have n2 : decide (V.str (match u.k with | .ge => Str.ofString "ge" | .eq => Str.ofString "eq" | .div _ => Str.ofString "div") = V.str (Str.ofString "ge")) = false := by
              cases hk : u.k with
              | ge => exact absurd hk hge
              | eq => exact (dec_ss (Str.ofString "eq") (Str.ofString "ge")).trans (decide_eq_false (by decide +kernel))
              | div m => exact (dec_ss (Str.ofString "div") (Str.ofString "ge")).trans (decide_eq_false (by decide +kernel))
            rw [n2]
            walk_at "wp"
            exact goal _ y _ _ (Same.refl _) (nk_ct hge hu) (fun _ _ h => h)
    · intro σ H1 pw
      obtain ⟨fs, xs, v4, v5, v6, v7, rfl, s1, efl, ho, epl, hks, al, two, fl_, wf, er⟩ := (hPv _ _ _).mp pw
      walk_at "wp"
      rw [rv, List.length_map, List.drop_of_length_le (by rw [cts, List.length_map]; exact Nat.le_refl _), rrows] at er
      exact ⟨_, .inl ⟨SqL.of efl, fun p np => q _ p fs (s1.trans (same_upd np)) (SqT.of upd_same) (ho.same (same_upd np)) er⟩⟩
theorem ok_System_is_impossible (T : Txt K mg A) : FnOk P w K mg base CX0 2 A.f_System_is_impossible A.d_System_is_impossible ["self"] (sp_System_is_impossible A K) := by
  have G_impossible := ok_impossible (w := w) (base := base) T
  refine T.F_System_is_impossible.ok sc_System_is_impossible (fun vs H Q E h => ?_) (fun cdv A' outer s H vs Q E hr h => ?_)
  · obtain ⟨a, dx, ra, n, rs, rfl, _⟩ := h
    rfl
  · obtain ⟨a, dx, ra, n, rs, rfl, hS, hn, q⟩ := h
    refine ⟨_, (pss_one (ps_ret (pe_cmpR (op_eqD hr.units) (pe_fld (pv 0) rfl) (pe_tup (pa_cons (pe_call G_impossible hr (by rfl) T.g_impossible T.F_impossible.kp T.B_impossible .nil pass0 (pa_cons (pe_fld (pv 0) rfl) pa_nil)) pa_nil)) (nomark _)))), ?_⟩
    walk_at "wp"
    refine ⟨_, dx, _, hS.ob, T.cl_System, T.na_System_rows, _, look_rows, _, dx, _, hS.ob, T.cl_System, T.na_System_variables, _, look_var, n, rfl, hn, fun H1 x s1 hx => ⟨by decide, fun p np => ?_⟩⟩
    have s2 := s1.trans (same_upd (o := .tup [.ref x]) np)
    refine ⟨_, ctsD [imp n], dp_rowsT (sameT s2 hS.rt) (hS.ok.same s2), .tup (SqT.of upd_same) (.cons (dp_ct (hx.same (same_upd np))) .nil), shaped_ctsD _, shaped_ctsD _, ?_⟩
    rw [eqv_ctsD]
    exact q _ s2
theorem ok_System_reduced (T : Txt K mg A) : FnOk P w K mg base CX0 6 A.f_System_reduced A.d_System_reduced ["self"] (sp_System_reduced A K) := by
  have G_System___init__ := ok_System___init__ (w := w) (base := base) T
  have G_reduced_rows := ok_reduced_rows (w := w) (base := base) T
  refine T.F_System_reduced.ok sc_System_reduced (fun vs H Q E h => ?_) (fun cdv A' outer s H vs Q E hr h => ?_)
  · obtain ⟨a, dx, ra, n, rs, rfl, _⟩ := h
    rfl
  · obtain ⟨a, dx, ra, n, rs, rfl, hS, hW, hn, hl, q⟩ := h
    refine ⟨_, (pss_one (ps_ret (pe_make T.mk_System G_System___init__ hr (by rfl) T.gC_System T.B_System___init__ .nil pass0 (pa_cons (pe_fld (pv 0) rfl) (pa_cons (pe_call G_reduced_rows (hr.mono (by decide)) (by rfl) T.g_reduced_rows T.F_reduced_rows.kp T.B_reduced_rows .nil pass0 (pa_cons (pe_fld (pv 0) rfl) (pa_cons (pe_fld (pv 0) rfl) pa_nil))) pa_nil))))), ?_⟩
    walk_at "wp"
    refine ⟨_, dx, _, hS.ob, T.cl_System, T.na_System_variables, _, look_var, _, dx, _, hS.ob, T.cl_System, T.na_System_variables, _, look_var, _, dx, _, hS.ob, T.cl_System, T.na_System_rows, _, look_rows, n, ra, rs, rfl, hS.rt, hS.ok, hW, hn, hl, fun H1 rb ss s1 h1 o1 e1 => ?_⟩
    have len1 : ss.length ≤ 6000 := by
      have := rrows_len n (cts rs) []
      rw [← e1, cts, cts, List.length_map, List.length_map] at this
      simp only [List.length_nil] at this
      omega
    have wf1 : ∀ r ∈ ss, Wf n r.2 := fun r hr' => rrows_mem n (Wf n) (cts rs) [] (fun t ht u hu => by
      obtain ⟨r', h1, rfl⟩ := List.mem_map.mp ht
      exact (hW r' h1).red hu) (fun t ht => by cases ht) r.2 (by rw [← e1]; exact List.mem_map.mpr ⟨r, hr', rfl⟩)
    exact sys_make (.inr h1) o1 wf1 hn len1 fun H2 x dy rc s2 sy => q _ x dy rc ss (s1.trans s2) sy e1
end
local macro_rules | `(tactic| walk_at "wp") => `(tactic| simp only [tSeq, tCKw, tAsg, tPar, gName, gTup, gCons, gNil, tVar, tC, tOp, tUn, rI, rI0, rU, tCB, tCons, tNil, tIfS, tRet, tRetN, tNext, tNever, test_eq, tB, tTup, tLst, tCall, tCallS, tCallLS, tMakeS, tAddS, tChain, rNotInO, rInO, iEnumT, iEnum, rIsnotB, rIsB, iZipM, tMkO, tIf, tAndV, tOrV, tNotV, tNot, tAnd, tOr, rEq, rNe, scal_ii, scal_ss, scal_bb, dec_ii, dec_ss, dec_bb, for_eq, lc_eq, lc2_eq, while_eq, tDrop, tYes, iList, iTup, iOr, tDNewN, tNSet, rNSet, sFld, tFld, tMake, tProp, tMeth, cxP, cxW, iStr, iRng1, iRng2, RZ.iZipA, L2.start, rIxL, rIxT, rIxS, rSlS, cxK, tSl, tPart, tNoPart, tBM, tBM0, rAppend, rExtend, rRepS, rGcd, s_ge_eq, s_ge_div, s_eq_ge, s_eq_div, s_div_ge, s_div_eq, gSub, rSetL, tAug, ipI, rAdd, rSub, tM1, tM0,
  List.map_cons, List.map_nil, List.length_cons, List.length_nil, List.cons_append, List.nil_append, List.append_nil, List.getElem?_cons_succ, List.getElem?_cons_zero, List.set_cons_succ, List.set_cons_zero, Nat.reduceAdd, Nat.reduceSub, List.replicate_succ, List.replicate_zero, wipe,
  Option.some.injEq, V.int.injEq, V.str.injEq, sgn_eq, V.ref.injEq, V.bl.injEq, exists_eq_left, exists_eq_left', exists_and_left, exists_eq_right, List.cons.injEq, and_true, true_and, ex_bl, ex_int, exists_const, Nat.zero_add, Int.toNat_natCast, Int.zero_add, and_assoc, reduceCtorEq, false_and, and_false, exists_false, or_false, false_or, eq_self, decide_true, decide_false, ite_true, ite_false, if_true, if_false, Bool.false_eq_true, Bool.not_true, Bool.not_false, ↓reduceIte])
/-! ### the elimination of a variable -/
abbrev Ex := List Int × Int
def Ex.e (x : Ex) : List Int := x.1 ++ [x.2]
def Ct.ex (t : Ct) : Ex := (t.c, t.d)
def wo (k : Nat) (l : List Int) : List Int := l.eraseIdx k
def co (k : Nat) (x : Ex) : Int := x.1.getD k 0
def lowE (k : Nat) (ts : List Ct) : List Ex := (ts.filter fun t => decide (t.k = .ge ∧ 0 < co k t.ex)).map Ct.ex
def uppE (k : Nat) (ts : List Ct) : List Ex := (ts.filter fun t => decide (t.k = .ge ∧ co k t.ex < 0)).map Ct.ex
def eqE (k : Nat) (ts : List Ct) : List Ex := (ts.filter fun t => decide (t.k = .eq ∧ co k t.ex ≠ 0)).map Ct.ex
def divM : Kd → List Int
  | .div m => [m]
  | _ => []
def divE (k : Nat) (ts : List Ct) : List Int := ((ts.filter fun t => decide (co k t.ex ≠ 0)).map fun t => divM t.k).flatten
def othE (k : Nat) (ts : List Ct) : List Ct := ts.filter fun t => decide (co k t.ex = 0)
def lcm1 (a m : Int) : Int := ((Nat.lcm a.natAbs m.natAbs : Nat) : Int)
def lcmL (l : List Int) : Int := l.foldl lcm1 1
def ruleN (he hd : Bool) (a b : List Int) : Nat :=
  if he then 1 else if !hd && (a.all (fun x => decide (x = 1)) || b.all (fun x => decide (x = 1))) then 2 else
  if a.isEmpty && b.isEmpty then 3 else if b.isEmpty || (!a.isEmpty && decide (a.sum ≤ b.sum)) then 4 else 5
def rule (k : Nat) (ts : List Ct) : Nat := ruleN (!(eqE k ts).isEmpty) (!(divE k ts).isEmpty) ((lowE k ts).map (co k)) ((uppE k ts).map fun x => - co k x)
def pivots (k : Nat) (ts : List Ct) : List (Ex × Int) :=
  if rule k ts = 1 then (eqE k ts).take 1 |>.map fun e => (e, 1) else
  if rule k ts < 4 then [] else
  (if rule k ts = 4 then lowE k ts else uppE k ts).map fun b => (b, ((co k b).natAbs : Int) * lcmL (divE k ts))
def countC (k : Nat) (ts : List Ct) : Int := if rule k ts = 2 then 1 else if rule k ts = 3 then lcmL (divE k ts) else ((pivots k ts).map (·.2)).sum
def joinE (k : Nat) (l u : Ex) : Ct := ⟨.ge, wo k (List.zipWith (· + ·) (u.1.map (co k l * ·)) (l.1.map (- co k u * ·))), co k l * u.2 + - co k u * l.2⟩
def joined (k : Nat) (ts : List Ct) : List Ct := (othE k ts).map (fun t => ⟨t.k, wo k t.c, t.d⟩) ++ ((lowE k ts).map fun l => (uppE k ts).map fun u => joinE k l u).flatten
def putE (k : Nat) (v : Int) (t : Ct) : Ct := ⟨t.k, wo k t.c, t.d + v * co k t.ex⟩
def eqAt : List (Ex × Int) → Int → Ex
  | [], _ => ([], 0)
  | q :: r, i => if i < q.2 then (q.1.1, q.1.2 - i) else eqAt r (i - q.2)
def scK (a : Int) : Kd → Kd
  | .div m => .div (m * a)
  | k => k
def solve1 (k : Nat) (e : Ex) (t : Ct) : Ct :=
  let a : Int := ((co k e).natAbs : Int)
  let f := if 0 < co k e then co k t.ex else - co k t.ex
  ⟨scK a t.k, List.zipWith (· - ·) ((wo k t.c).map (a * ·)) ((wo k e.1).map (f * ·)), a * t.d - f * e.2⟩
def solved (k : Nat) (e : Ex) (ts : List Ct) : List Ct := ⟨.div ((co k e).natAbs : Int), wo k e.1, e.2⟩ :: ts.map (solve1 k e)
def caseRows (k : Nat) (ts : List Ct) (i : Int) : List Ct := if rule k ts = 2 then joined k ts else if rule k ts = 3 then ts.map (putE k i) else solved k (eqAt (pivots k ts) i) ts
/-! no point is lost -/
theorem dot_wo : ∀ (k : Nat) (c p : List Int), c.length = p.length → dot c p = dot (wo k c) (wo k p) + c.getD k 0 * p.getD k 0
  | _, [], [], _ => by simp [dot, wo]
  | 0, x :: c, y :: p, _ => by
    show x * y + dot c p = dot c p + x * y
    omega
  | k + 1, x :: c, y :: p, h => by
    have ih := dot_wo k c p (by simpa using h)
    show x * y + dot c p = (x * y + dot (wo k c) (wo k p)) + c.getD k 0 * p.getD k 0
    rw [ih]
    omega
theorem dot_scale (f : Int) : ∀ (c p : List Int), dot (c.map (f * ·)) p = f * dot c p
  | [], _ => by simp [dot]
  | _ :: _, [] => by simp [dot]
  | x :: c, y :: p => by rw [List.map_cons, dot, dot, dot_scale f c p, Int.mul_add, Int.mul_assoc]
theorem dot_zadd : ∀ (a b p : List Int), a.length = b.length → dot (List.zipWith (· + ·) a b) p = dot a p + dot b p
  | [], [], _, _ => by simp [dot]
  | _ :: _, _ :: _, [], _ => by simp [dot]
  | x :: a, y :: b, z :: p, h => by
    rw [List.zipWith_cons_cons, dot, dot, dot, dot_zadd a b p (by simpa using h), Int.add_mul]
    omega
theorem dot_zsub : ∀ (a b p : List Int), a.length = b.length → dot (List.zipWith (· - ·) a b) p = dot a p - dot b p
  | [], [], _, _ => by simp [dot]
  | _ :: _, _ :: _, [], _ => by simp [dot]
  | x :: a, y :: b, z :: p, h => by
    rw [List.zipWith_cons_cons, dot, dot, dot, dot_zsub a b p (by simpa using h), Int.sub_mul]
    omega
theorem wo_len {k : Nat} {l : List Int} (h : k < l.length) : (wo k l).length = l.length - 1 := List.length_eraseIdx_of_lt h
/-- the value of an expression, and that without the variable -/
def vl (e : Ex) (p : List Int) : Int := dot e.1 p + e.2
theorem at_vl (t : Ct) (p : List Int) : t.at_ p = t.k.holds (vl t.ex p) := rfl
theorem vl_wo {k : Nat} {e : Ex} {p : List Int} (h : e.1.length = p.length) : vl e p = (dot (wo k e.1) (wo k p) + e.2) + co k e * p.getD k 0 := by
  unfold vl co
  rw [dot_wo k e.1 p h]
  omega
/-- what is asked of the rows -/
structure RowsOk (n k : Nat) (ts : List Ct) : Prop where
  ok : ∀ t ∈ ts, t.k.ok
  len : ∀ t ∈ ts, t.c.length = n
  k : k < n
def Holds (ts : List Ct) (p : List Int) : Prop := ∀ t ∈ ts, t.at_ p = true
theorem holds_sc {a : Int} (h : 0 < a) {kd : Kd} {v : Int} (hk : kd.holds v = true) : (scK a kd).holds (a * v) = true := by
  cases kd with
  | ge =>
    have := of_decide_eq_true hk
    exact decide_eq_true (Int.mul_nonneg (by omega) this)
  | eq =>
    have := of_decide_eq_true hk
    exact decide_eq_true (by rw [this, Int.mul_zero])
  | div m =>
    have := of_decide_eq_true hk
    obtain ⟨q, e⟩ := Int.dvd_of_emod_eq_zero this
    exact decide_eq_true (Int.emod_eq_zero_of_dvd ⟨q, by rw [e, Int.mul_comm m a, Int.mul_assoc]⟩)
/-- a point at which an expression that has the variable is 0 -/
theorem solved_holds {n k : Nat} {ts : List Ct} {p : List Int} {e : Ex} (H : RowsOk n k ts) (hp : p.length = n) (he : e.1.length = n) (hc : co k e ≠ 0) (h0 : vl e p = 0) (hh : Holds ts p) : Holds (solved k e ts) (wo k p) := by
  have hk := H.k
  have hv := vl_wo (k := k) (e := e) (p := p) (by rw [he, hp])
  rw [h0] at hv
  generalize hx : p.getD k 0 = x at *
  have ha : 0 < ((co k e).natAbs : Int) := by omega
  intro t ht
  rcases List.mem_cons.mp ht with rfl | ht
  · refine decide_eq_true (Int.emod_eq_zero_of_dvd ?_)
    show ((co k e).natAbs : Int) ∣ dot (wo k e.1) (wo k p) + e.2
    have : dot (wo k e.1) (wo k p) + e.2 = co k e * (-x) := by rw [Int.mul_neg]; omega
    rw [this]
    exact Int.dvd_trans (Int.natAbs_dvd.mpr (Int.dvd_refl _)) (Int.dvd_mul_right _ _)
  · obtain ⟨u, hu, rfl⟩ := List.mem_map.mp ht
    have hul := H.len u hu
    have huv := vl_wo (k := k) (e := u.ex) (p := p) (by show u.c.length = _; rw [hul, hp])
    rw [hx] at huv
    have h2 := hh u hu
    rw [at_vl, huv] at h2
    rw [at_vl]
    have e3 : vl (solve1 k e u).ex (wo k p) = ((co k e).natAbs : Int) * (dot (wo k u.c) (wo k p) + u.d + co k u.ex * x) := by
      show dot (List.zipWith (· - ·) ((wo k u.c).map (((co k e).natAbs : Int) * ·)) ((wo k e.1).map ((if 0 < co k e then co k u.ex else - co k u.ex) * ·))) (wo k p) + (((co k e).natAbs : Int) * u.d - (if 0 < co k e then co k u.ex else - co k u.ex) * e.2) = _
      rw [dot_zsub _ _ _ (by rw [List.length_map, List.length_map, wo_len (by omega), wo_len (by omega), hul, he]), dot_scale, dot_scale]
      have hd : dot (wo k e.1) (wo k p) = - e.2 - co k e * x := by omega
      rw [hd]
      generalize dot (wo k u.c) (wo k p) = w
      generalize co k u.ex = c
      by_cases h : 0 < co k e
      · have e1 : ((co k e).natAbs : Int) = co k e := by omega
        rw [if_pos h, e1]
        generalize co k e = a
        rw [Int.mul_add, Int.mul_add, Int.mul_sub, Int.mul_neg]
        have : c * (a * x) = a * (c * x) := by rw [← Int.mul_assoc, Int.mul_comm c a, Int.mul_assoc]
        omega
      · have e1 : ((co k e).natAbs : Int) = - co k e := by omega
        rw [if_neg h, e1]
        generalize co k e = a
        rw [Int.mul_add, Int.mul_add, Int.mul_sub, Int.mul_neg, Int.neg_mul c, Int.neg_mul, Int.neg_mul, Int.neg_mul, Int.neg_mul]
        have : c * (a * x) = a * (c * x) := by rw [← Int.mul_assoc, Int.mul_comm c a, Int.mul_assoc]
        omega
    rw [e3]
    exact holds_sc ha h2
theorem lcm1_pos {a m : Int} (ha : 1 ≤ a) (hm : 1 ≤ m) : 1 ≤ lcm1 a m := by
  unfold lcm1
  have := Nat.lcm_pos (show 0 < a.natAbs by omega) (show 0 < m.natAbs by omega)
  omega
theorem lcmL_all : ∀ (l : List Int) (a : Int), 1 ≤ a → (∀ m ∈ l, 1 ≤ m) → 1 ≤ l.foldl lcm1 a ∧ a ∣ l.foldl lcm1 a ∧ ∀ m ∈ l, m ∣ l.foldl lcm1 a
  | [], a, h, _ => ⟨h, Int.dvd_refl a, fun _ h => by cases h⟩
  | x :: r, a, h, hm => by
    have hx := hm x List.mem_cons_self
    obtain ⟨h1, h2, h3⟩ := lcmL_all r (lcm1 a x) (lcm1_pos h hx) fun m h => hm m (List.mem_cons_of_mem _ h)
    have e1 : a ∣ lcm1 a x := Int.natAbs_dvd.mp (Int.natCast_dvd_natCast.mpr (Nat.dvd_lcm_left _ _))
    have e2 : x ∣ lcm1 a x := Int.natAbs_dvd.mp (Int.natCast_dvd_natCast.mpr (Nat.dvd_lcm_right _ _))
    refine ⟨h1, Int.dvd_trans e1 h2, fun m h => ?_⟩
    rcases List.mem_cons.mp h with rfl | h
    · exact Int.dvd_trans e2 h2
    · exact h3 m h
theorem divE_mem {k : Nat} {ts : List Ct} {t : Ct} {m : Int} (ht : t ∈ ts) (hk : t.k = .div m) (hc : co k t.ex ≠ 0) : m ∈ divE k ts := by
  unfold divE
  refine List.mem_flatten.mpr ⟨[m], List.mem_map.mpr ⟨t, List.mem_filter.mpr ⟨ht, decide_eq_true hc⟩, ?_⟩, List.mem_singleton.mpr rfl⟩
  rw [hk]
  rfl
theorem divE_pos {n k : Nat} {ts : List Ct} (H : RowsOk n k ts) : ∀ m ∈ divE k ts, 1 ≤ m := fun m hm => by
  obtain ⟨l, hl, h⟩ := List.mem_flatten.mp hm
  obtain ⟨t, ht, rfl⟩ := List.mem_map.mp hl
  have ok := H.ok t (List.mem_filter.mp ht).1
  cases hk : t.k with
  | ge => rw [hk] at h; cases h
  | eq => rw [hk] at h; cases h
  | div m' =>
    rw [hk] at h ok
    rw [List.mem_singleton.mp h]
    exact ok
theorem ex_min {α : Type} (f : α → Int) : ∀ l : List α, l ≠ [] → ∃ x ∈ l, ∀ y ∈ l, f x ≤ f y
  | [], h => absurd rfl h
  | [x], _ => ⟨x, List.mem_cons_self, fun y hy => by rw [List.mem_singleton.mp hy]; exact Int.le_refl _⟩
  | x :: y :: r, _ => by
    obtain ⟨z, hz, h⟩ := ex_min f (y :: r) (by simp)
    by_cases hx : f x ≤ f z
    · exact ⟨x, List.mem_cons_self, fun w hw => by
        rcases List.mem_cons.mp hw with rfl | hw
        · exact Int.le_refl _
        · exact Int.le_trans hx (h w hw)⟩
    · exact ⟨z, List.mem_cons_of_mem _ hz, fun w hw => by
        rcases List.mem_cons.mp hw with rfl | hw
        · omega
        · exact h w hw⟩
/-- a point with another value of the variable -/
theorem wo_set (k : Nat) (p : List Int) (x : Int) : wo k (p.set k x) = wo k p := by
  unfold wo
  rw [List.eraseIdx_set_eq]
theorem vl_set {k : Nat} {e : Ex} {p : List Int} (h : e.1.length = p.length) (hk : k < p.length) (y : Int) : vl e (p.set k y) = vl e p + co k e * (y - p.getD k 0) := by
  rw [vl_wo (k := k) (by rw [List.length_set]; exact h), vl_wo (k := k) h, wo_set]
  have : (p.set k y).getD k 0 = y := by
    rw [List.getD_eq_getElem?_getD, List.getElem?_set_self hk]
    rfl
  rw [this, Int.mul_sub]
  omega
/-- rules 4 and 5: from a point to one beside a bound -/
theorem shift_holds {n k : Nat} {ts : List Ct} {p : List Int} {bs : List Ex} {s D : Int} (H : RowsOk n k ts) (hp : p.length = n) (hs : s = 1 ∨ s = -1) (hD : 1 ≤ D) (hne : bs ≠ [])
    (hb : ∀ b ∈ bs, b.1.length = n ∧ 0 < s * co k b ∧ 0 ≤ vl b p) (hge : ∀ t ∈ ts, t.k = .ge → 0 < s * co k t.ex → t.ex ∈ bs) (heq : ∀ t ∈ ts, t.k = .eq → co k t.ex = 0) (hdiv : ∀ t ∈ ts, ∀ m, t.k = .div m → co k t.ex ≠ 0 → m ∣ D) (hh : Holds ts p) :
    ∃ b ∈ bs, ∃ r, 0 ≤ r ∧ r < ((co k b).natAbs : Int) * D ∧ Holds (solved k (b.1, b.2 - r) ts) (wo k p) := by
  have hk := H.k
  obtain ⟨b, hbm, hmin⟩ := ex_min (fun b => vl b p / (s * co k b * D)) bs hne
  obtain ⟨bl, bp, bv⟩ := hb b hbm
  have hab : s * co k b = ((co k b).natAbs : Int) := by rcases hs with rfl | rfl <;> omega
  have hM : 0 < s * co k b * D := Int.mul_pos bp (by omega)
  have ss : s * s = 1 := by rcases hs with rfl | rfl <;> rfl
  generalize ht : vl b p / (s * co k b * D) = t at *
  have t0 : 0 ≤ t := by rw [← ht]; exact Int.ediv_nonneg bv (by omega)
  have e1 := Int.mul_ediv_add_emod (vl b p) (s * co k b * D)
  have r0 := Int.emod_nonneg (vl b p) (show s * co k b * D ≠ 0 by omega)
  have r1 := Int.emod_lt_of_pos (vl b p) hM
  rw [ht] at e1
  -- the other point
  have hset : ∀ e : Ex, e.1.length = n → vl e (p.set k (p.getD k 0 - s * (t * D))) = vl e p - s * co k e * D * t := fun e he => by
    rw [vl_set (by rw [he, hp]) (by omega)]
    have : co k e * (p.getD k 0 - s * (t * D) - p.getD k 0) = - (s * co k e * D * t) := by
      rw [show p.getD k 0 - s * (t * D) - p.getD k 0 = -(s * (t * D)) by omega, Int.mul_neg, ← Int.mul_assoc, Int.mul_comm (co k e) s, Int.mul_comm t D, ← Int.mul_assoc]
    omega
  have hh2 : Holds ts (p.set k (p.getD k 0 - s * (t * D))) := fun u hu => by
    have h0 := hh u hu
    have hu1 := H.len u hu
    rw [at_vl] at h0 ⊢
    rw [hset u.ex hu1]
    cases hkd : u.k with
    | ge =>
      rw [hkd] at h0
      have h0 := of_decide_eq_true h0
      refine decide_eq_true ?_
      by_cases hc : 0 < s * co k u.ex
      · have hm := hmin u.ex (hge u hu hkd hc)
        have hM2 : 0 < s * co k u.ex * D := Int.mul_pos hc (by omega)
        have e2 := Int.mul_ediv_add_emod (vl u.ex p) (s * co k u.ex * D)
        have e3 := Int.emod_nonneg (vl u.ex p) (show s * co k u.ex * D ≠ 0 by omega)
        have e4 : s * co k u.ex * D * t ≤ s * co k u.ex * D * (vl u.ex p / (s * co k u.ex * D)) := Int.mul_le_mul_of_nonneg_left hm (by omega)
        omega
      · have h3 : s * co k u.ex * D * t ≤ 0 := by
          rw [Int.mul_assoc]
          exact Int.mul_nonpos_of_nonpos_of_nonneg (by omega) (Int.mul_nonneg (by omega) t0)
        omega
    | eq =>
      rw [hkd] at h0
      rw [heq u hu hkd, Int.mul_zero, Int.zero_mul, Int.zero_mul, Int.sub_zero]
      exact h0
    | div m =>
      rw [hkd] at h0
      have h0 := of_decide_eq_true h0
      refine decide_eq_true ?_
      by_cases hc : co k u.ex = 0
      · rw [hc, Int.mul_zero, Int.zero_mul, Int.zero_mul, Int.sub_zero]
        exact h0
      · have hd := hdiv u hu m hkd hc
        exact Int.emod_eq_zero_of_dvd (Int.dvd_sub (Int.dvd_of_emod_eq_zero h0) (Int.dvd_trans (Int.dvd_trans hd (Int.dvd_mul_left _ _)) (Int.dvd_mul_right _ _)))
  refine ⟨b, hbm, vl b p % (s * co k b * D), r0, by rw [← hab]; exact r1, ?_⟩
  rw [← wo_set k p (p.getD k 0 - s * (t * D))]
  refine solved_holds (e := (b.1, b.2 - vl b p % (s * co k b * D))) H (by rw [List.length_set]; exact hp) bl (fun z => ?_) ?_ hh2
  · have z : co k b = 0 := z
    rw [z, Int.mul_zero] at bp
    omega
  · have h5 := hset b bl
    show dot b.1 _ + (b.2 - _) = 0
    have : vl b (p.set k (p.getD k 0 - s * (t * D))) = dot b.1 (p.set k (p.getD k 0 - s * (t * D))) + b.2 := rfl
    omega
theorem eqAt_off : ∀ (xs : List (Ex × Int)) (q : Ex × Int) (ys : List (Ex × Int)) (r : Int), (∀ x ∈ xs, 0 ≤ x.2) → 0 ≤ r → r < q.2 → eqAt (xs ++ q :: ys) ((xs.map (·.2)).sum + r) = (q.1.1, q.1.2 - r)
  | [], q, ys, r, _, h0, h1 => by
    rw [List.nil_append, List.map_nil, List.sum_nil, Int.zero_add, eqAt, if_pos h1]
  | x :: xs, q, ys, r, hx, h0, h1 => by
    have ih := eqAt_off xs q ys r (fun y hy => hx y (List.mem_cons_of_mem _ hy)) h0 h1
    have hn : 0 ≤ (xs.map (·.2)).sum := by
      clear ih
      induction xs with
      | nil => exact Int.le_refl 0
      | cons y r ih2 =>
        rw [List.map_cons, List.sum_cons]
        have h1 := hx y (by simp)
        have h2 := ih2 fun z hz => hx z (by simp at hz ⊢; rcases hz with rfl | hz <;> simp [*])
        omega
    rw [List.cons_append, List.map_cons, List.sum_cons, eqAt, if_neg (by omega), show x.2 + (xs.map (·.2)).sum + r - x.2 = (xs.map (·.2)).sum + r by omega, ih]
theorem sum_nn : ∀ (l : List Int), (∀ x ∈ l, 0 ≤ x) → 0 ≤ l.sum
  | [], _ => Int.le_refl 0
  | x :: r, h => by
    rw [List.sum_cons]
    have h1 := h x List.mem_cons_self
    have h2 := sum_nn r fun y hy => h y (List.mem_cons_of_mem _ hy)
    omega
theorem low_mem {k : Nat} {ts : List Ct} {e : Ex} : e ∈ lowE k ts ↔ ∃ t ∈ ts, t.k = .ge ∧ 0 < co k t.ex ∧ e = t.ex := by
  unfold lowE
  rw [List.mem_map]
  constructor
  · rintro ⟨t, ht, rfl⟩
    obtain ⟨h1, h2⟩ := List.mem_filter.mp ht
    exact ⟨t, h1, (of_decide_eq_true h2).1, (of_decide_eq_true h2).2, rfl⟩
  · rintro ⟨t, h1, h2, h3, rfl⟩
    exact ⟨t, List.mem_filter.mpr ⟨h1, decide_eq_true ⟨h2, h3⟩⟩, rfl⟩
theorem upp_mem {k : Nat} {ts : List Ct} {e : Ex} : e ∈ uppE k ts ↔ ∃ t ∈ ts, t.k = .ge ∧ co k t.ex < 0 ∧ e = t.ex := by
  unfold uppE
  rw [List.mem_map]
  constructor
  · rintro ⟨t, ht, rfl⟩
    obtain ⟨h1, h2⟩ := List.mem_filter.mp ht
    exact ⟨t, h1, (of_decide_eq_true h2).1, (of_decide_eq_true h2).2, rfl⟩
  · rintro ⟨t, h1, h2, h3, rfl⟩
    exact ⟨t, List.mem_filter.mpr ⟨h1, decide_eq_true ⟨h2, h3⟩⟩, rfl⟩
theorem eq_mem {k : Nat} {ts : List Ct} {e : Ex} : e ∈ eqE k ts ↔ ∃ t ∈ ts, t.k = .eq ∧ co k t.ex ≠ 0 ∧ e = t.ex := by
  unfold eqE
  rw [List.mem_map]
  constructor
  · rintro ⟨t, ht, rfl⟩
    obtain ⟨h1, h2⟩ := List.mem_filter.mp ht
    exact ⟨t, h1, (of_decide_eq_true h2).1, (of_decide_eq_true h2).2, rfl⟩
  · rintro ⟨t, h1, h2, h3, rfl⟩
    exact ⟨t, List.mem_filter.mpr ⟨h1, decide_eq_true ⟨h2, h3⟩⟩, rfl⟩
theorem nil_eq {k : Nat} {ts : List Ct} (h : eqE k ts = []) : ∀ t ∈ ts, t.k = .eq → co k t.ex = 0 := fun t ht hk => Classical.byContradiction fun z => by
  have := eq_mem.mpr ⟨t, ht, hk, z, rfl⟩
  rw [h] at this
  cases this
/-- no point is lost: some case has it, without the variable -/
theorem keeps {n k : Nat} {ts : List Ct} {p : List Int} (H : RowsOk n k ts) (hp : p.length = n) (hh : Holds ts p) : ∃ i : Int, 0 ≤ i ∧ i < countC k ts ∧ Holds (caseRows k ts i) (wo k p) := by
  have hk := H.k
  have hD := (lcmL_all (divE k ts) 1 (by decide) (divE_pos H)).1
  have hDm := (lcmL_all (divE k ts) 1 (by decide) (divE_pos H)).2.2
  have hDd : ∀ t ∈ ts, ∀ m, t.k = .div m → co k t.ex ≠ 0 → m ∣ lcmL (divE k ts) := fun t ht m hm hc => hDm m (divE_mem ht hm hc)
  change 1 ≤ lcmL (divE k ts) at hD
  by_cases r2 : rule k ts = 2
  · refine ⟨0, Int.le_refl 0, by rw [countC, if_pos r2]; decide, ?_⟩
    rw [caseRows, if_pos r2]
    intro t ht
    rcases List.mem_append.mp ht with h | h
    · obtain ⟨u, hu, rfl⟩ := List.mem_map.mp h
      obtain ⟨h1, h2⟩ := List.mem_filter.mp hu
      have hc := of_decide_eq_true h2
      have h3 := hh u h1
      rw [at_vl, vl_wo (k := k) (by show u.c.length = _; rw [H.len u h1, hp]), hc, Int.zero_mul, Int.add_zero] at h3
      exact h3
    · obtain ⟨l, hl, hx⟩ := List.mem_flatten.mp h
      obtain ⟨a, ha, rfl⟩ := List.mem_map.mp hl
      obtain ⟨b, hb, rfl⟩ := List.mem_map.mp hx
      obtain ⟨ta, ta1, ta2, ta3, rfl⟩ := low_mem.mp ha
      obtain ⟨tb, tb1, tb2, tb3, rfl⟩ := upp_mem.mp hb
      have va := hh ta ta1
      have vb := hh tb tb1
      rw [at_vl, ta2] at va
      rw [at_vl, tb2] at vb
      have va := of_decide_eq_true va
      have vb := of_decide_eq_true vb
      have la := H.len ta ta1
      have lb := H.len tb tb1
      refine decide_eq_true ?_
      show 0 ≤ dot (wo k (List.zipWith (· + ·) (tb.c.map (co k ta.ex * ·)) (ta.c.map (- co k tb.ex * ·)))) (wo k p) + (co k ta.ex * tb.d + - co k tb.ex * ta.d)
      have e0 := dot_wo k (List.zipWith (· + ·) (tb.c.map (co k ta.ex * ·)) (ta.c.map (- co k tb.ex * ·))) p (by rw [List.length_zipWith, List.length_map, List.length_map]; omega)
      have e1 : (List.zipWith (· + ·) (tb.c.map (co k ta.ex * ·)) (ta.c.map (- co k tb.ex * ·))).getD k 0 = 0 := by
        rw [List.getD_eq_getElem?_getD, List.getElem?_zipWith, List.getElem?_map, List.getElem?_map, List.getElem?_eq_getElem (show k < tb.c.length by omega), List.getElem?_eq_getElem (show k < ta.c.length by omega)]
        show co k ta.ex * tb.c[k] + - co k tb.ex * ta.c[k] = 0
        have c1 : co k ta.ex = ta.c[k] := by
          show ta.c.getD k 0 = _
          rw [List.getD_eq_getElem?_getD, List.getElem?_eq_getElem (show k < ta.c.length by omega)]
          rfl
        have c2 : co k tb.ex = tb.c[k] := by
          show tb.c.getD k 0 = _
          rw [List.getD_eq_getElem?_getD, List.getElem?_eq_getElem (show k < tb.c.length by omega)]
          rfl
        rw [c1, c2, Int.neg_mul, Int.mul_comm]
        omega
      rw [e1, Int.zero_mul, Int.add_zero, dot_zadd _ _ _ (by rw [List.length_map, List.length_map]; omega), dot_scale, dot_scale] at e0
      rw [← e0]
      have h1 := Int.mul_nonneg (show 0 ≤ co k ta.ex by omega) vb
      have h2 := Int.mul_nonneg (show 0 ≤ - co k tb.ex by omega) va
      have h3 : vl tb.ex p = dot tb.c p + tb.d := rfl
      have h4 : vl ta.ex p = dot ta.c p + ta.d := rfl
      rw [h3, Int.mul_add] at h1
      rw [h4, Int.mul_add] at h2
      omega
  · by_cases r3 : rule k ts = 3
    · have hx0 := Int.emod_nonneg (p.getD k 0) (show lcmL (divE k ts) ≠ 0 by omega)
      have hx1 := Int.emod_lt_of_pos (p.getD k 0) (show 0 < lcmL (divE k ts) by omega)
      refine ⟨p.getD k 0 % lcmL (divE k ts), hx0, by rw [countC, if_neg r2, if_pos r3]; exact hx1, ?_⟩
      rw [caseRows, if_neg r2, if_pos r3]
      -- only divs have the variable
      have hno : ∀ t ∈ ts, (t.k = .ge ∨ t.k = .eq) → co k t.ex = 0 := fun t ht hkd => by
        unfold rule ruleN at r3
        split at r3
        · cases r3
        · rename_i h1
          split at r3
          · cases r3
          · split at r3
            · rename_i h3
              rw [Bool.and_eq_true] at h3
              have l0 : lowE k ts = [] := by simpa using h3.1
              have u0 : uppE k ts = [] := by simpa using h3.2
              have q0 : eqE k ts = [] := by simpa using h1
              rcases hkd with hkd | hkd
              · refine Classical.byContradiction fun z => ?_
                rcases Int.lt_or_gt_of_ne z with z | z
                · have := upp_mem.mpr ⟨t, ht, hkd, z, rfl⟩
                  rw [u0] at this
                  cases this
                · have := low_mem.mpr ⟨t, ht, hkd, z, rfl⟩
                  rw [l0] at this
                  cases this
              · exact nil_eq q0 t ht hkd
            · split at r3 <;> cases r3
      intro t ht
      obtain ⟨u, hu, rfl⟩ := List.mem_map.mp ht
      have h0 := hh u hu
      rw [at_vl, vl_wo (k := k) (by show u.c.length = _; rw [H.len u hu, hp])] at h0
      show u.k.holds (dot (wo k u.c) (wo k p) + (u.d + (p.getD k 0 % lcmL (divE k ts)) * co k u.ex)) = true
      by_cases hc : co k u.ex = 0
      · rw [hc] at h0 ⊢
        rw [Int.mul_zero, Int.add_zero]
        rw [Int.zero_mul, Int.add_zero] at h0
        exact h0
      · cases hkd : u.k with
        | ge => exact absurd (hno u hu (.inl hkd)) hc
        | eq => exact absurd (hno u hu (.inr hkd)) hc
        | div m =>
          rw [hkd] at h0
          have h0 := Int.dvd_of_emod_eq_zero (of_decide_eq_true h0)
          refine decide_eq_true (Int.emod_eq_zero_of_dvd ?_)
          have hd := hDd u hu m hkd hc
          have e1 := Int.mul_ediv_add_emod (p.getD k 0) (lcmL (divE k ts))
          have h2 := Int.dvd_sub h0 (Int.dvd_trans hd (Int.dvd_trans (Int.dvd_mul_right (lcmL (divE k ts)) (p.getD k 0 / lcmL (divE k ts))) (Int.dvd_mul_left (co k u.ex) _)))
          have e2 : co k u.ex * p.getD k 0 = co k u.ex * (lcmL (divE k ts) * (p.getD k 0 / lcmL (divE k ts))) + (p.getD k 0 % lcmL (divE k ts)) * co k u.ex := by
            rw [Int.mul_comm (p.getD k 0 % lcmL (divE k ts)), ← Int.mul_add, e1]
          have e3 : dot (wo k u.c) (wo k p) + (u.d + (p.getD k 0 % lcmL (divE k ts)) * co k u.ex) = dot (wo k u.ex.1) (wo k p) + u.ex.2 + co k u.ex * p.getD k 0 - co k u.ex * (lcmL (divE k ts) * (p.getD k 0 / lcmL (divE k ts))) := by
            show _ = dot (wo k u.c) (wo k p) + u.d + co k u.ex * p.getD k 0 - _
            omega
          rw [e3]
          exact h2
    · -- a pivot
      have piv : ∀ (b : Ex) (m r : Int), (b, m) ∈ pivots k ts → (∀ q ∈ pivots k ts, 0 ≤ q.2) → 0 ≤ r → r < m → Holds (solved k (b.1, b.2 - r) ts) (wo k p) → ∃ i : Int, 0 ≤ i ∧ i < countC k ts ∧ Holds (caseRows k ts i) (wo k p) := fun b m r hm hq h0 h1 hs => by
        obtain ⟨xs, ys, e⟩ := List.append_of_mem hm
        rw [e] at hq
        have n1 : 0 ≤ (xs.map (·.2)).sum := sum_nn _ fun z hz => by
          obtain ⟨q, hq', rfl⟩ := List.mem_map.mp hz
          exact hq q (List.mem_append_left _ hq')
        have n2 : 0 ≤ (ys.map (·.2)).sum := sum_nn _ fun z hz => by
          obtain ⟨q, hq', rfl⟩ := List.mem_map.mp hz
          exact hq q (List.mem_append_right _ (List.mem_cons_of_mem _ hq'))
        refine ⟨(xs.map (·.2)).sum + r, by omega, ?_, ?_⟩
        · rw [countC, if_neg r2, if_neg r3, e, List.map_append, List.sum_append, List.map_cons, List.sum_cons]
          dsimp only
          omega
        · rw [caseRows, if_neg r2, if_neg r3, e, eqAt_off xs (b, m) ys r (fun x hx => hq x (List.mem_append_left _ hx)) h0 h1]
          exact hs
      by_cases r1 : rule k ts = 1
      · have hne : eqE k ts ≠ [] := by
          unfold rule ruleN at r1
          split at r1
          · rename_i h
            intro z
            rw [z] at h
            cases h
          · split at r1
            · cases r1
            · split at r1
              · cases r1
              · split at r1 <;> cases r1
        obtain ⟨e, r, er⟩ : ∃ e r, eqE k ts = e :: r := by
          cases h : eqE k ts with
          | nil => exact absurd h hne
          | cons e r => exact ⟨e, r, rfl⟩
        have hpv : pivots k ts = [(e, 1)] := by rw [pivots, if_pos r1, er]; rfl
        obtain ⟨t, t1, t2, t3, rfl⟩ := eq_mem.mp (show e ∈ eqE k ts by rw [er]; exact List.mem_cons_self)
        have h0 := hh t t1
        rw [at_vl, t2] at h0
        have h0 := of_decide_eq_true h0
        refine piv t.ex 1 0 (by rw [hpv]; exact List.mem_cons_self) (fun q hq => by rw [hpv] at hq; rw [List.mem_singleton.mp hq]; show (0 : Int) ≤ 1; decide) (by decide) (by decide) ?_
        exact solved_holds (e := (t.ex.1, t.ex.2 - 0)) H hp (H.len t t1) t3 (by rw [Int.sub_zero]; exact h0) hh
      · -- 4 or 5
        have hq0 : eqE k ts = [] := by
          unfold rule ruleN at r1
          split at r1
          · exact absurd rfl r1
          · rename_i h
            simpa using h
        have r45 : (rule k ts = 4 ∧ lowE k ts ≠ []) ∨ (rule k ts = 5 ∧ uppE k ts ≠ []) := by
          unfold rule ruleN at r1 r2 r3 ⊢
          rw [hq0] at r1 r2 r3 ⊢
          simp only [List.isEmpty_nil, Bool.not_true, Bool.false_eq_true, if_false] at r1 r2 r3 ⊢
          split at r2
          · exact absurd rfl r2
          · rename_i h2
            rw [if_neg h2] at r3 ⊢
            split at r3
            · exact absurd rfl r3
            · rename_i h3
              rw [if_neg h3]
              split
              · rename_i h4
                refine .inl ⟨rfl, fun z => h3 ?_⟩
                rw [z] at h4 ⊢
                simpa using h4
              · rename_i h5
                refine .inr ⟨rfl, fun z => h5 ?_⟩
                rw [z]
                rfl
        have hqn : ∀ (l : List Ex), ∀ q ∈ l.map (fun b => (b, ((co k b).natAbs : Int) * lcmL (divE k ts))), 0 ≤ q.2 := fun l q hq => by
          obtain ⟨b, _, rfl⟩ := List.mem_map.mp hq
          exact Int.mul_nonneg (by omega) (by omega)
        rcases r45 with ⟨r4, hne⟩ | ⟨r5, hne⟩
        · have hpv : pivots k ts = (lowE k ts).map fun b => (b, ((co k b).natAbs : Int) * lcmL (divE k ts)) := by
            rw [pivots, if_neg r1, if_neg (by omega), if_pos r4]
          obtain ⟨b, hb, r, h0, h1, hs⟩ := shift_holds (s := 1) H hp (.inl rfl) hD hne (fun b hb => by
            obtain ⟨t, t1, t2, t3, rfl⟩ := low_mem.mp hb
            have h0 := hh t t1
            rw [at_vl, t2] at h0
            exact ⟨H.len t t1, by omega, of_decide_eq_true h0⟩) (fun t ht hkd hc => low_mem.mpr ⟨t, ht, hkd, by omega, rfl⟩) (nil_eq hq0) hDd hh
          exact piv b _ r (by rw [hpv]; exact List.mem_map.mpr ⟨b, hb, rfl⟩) (by rw [hpv]; exact hqn _) h0 h1 hs
        · have hpv : pivots k ts = (uppE k ts).map fun b => (b, ((co k b).natAbs : Int) * lcmL (divE k ts)) := by
            rw [pivots, if_neg r1, if_neg (by omega), if_neg (by omega)]
          obtain ⟨b, hb, r, h0, h1, hs⟩ := shift_holds (s := -1) H hp (.inr rfl) hD hne (fun b hb => by
            obtain ⟨t, t1, t2, t3, rfl⟩ := upp_mem.mp hb
            have h0 := hh t t1
            rw [at_vl, t2] at h0
            exact ⟨H.len t t1, by omega, of_decide_eq_true h0⟩) (fun t ht hkd hc => upp_mem.mpr ⟨t, ht, hkd, by omega, rfl⟩) (nil_eq hq0) hDd hh
          exact piv b _ r (by rw [hpv]; exact List.mem_map.mpr ⟨b, hb, rfl⟩) (by rw [hpv]; exact hqn _) h0 h1 hs
def addL (a b : List Int) : List Int := List.zipWith (· + ·) a b
def sp_add (K : PySem.W.Frag) : Sp := fun vs H Q _ => ∃ (a b : Addr) (xs ys : List Int), vs = [.ref a, .ref b] ∧ SqT K H a (xs.map V.int) ∧ SqT K H b (ys.map V.int) ∧ xs.length = ys.length ∧ ys.length ≤ 100 ∧ ∀ H' t, Same H H' → SqT K H' t ((addL xs ys).map V.int) → Q (.ref t) H'
def sp_difference (K : PySem.W.Frag) : Sp := fun vs H Q _ => ∃ (a b : Addr) (xs ys : List Int), vs = [.ref a, .ref b] ∧ SqT K H a (xs.map V.int) ∧ SqT K H b (ys.map V.int) ∧ xs.length = ys.length ∧ ys.length ≤ 100 ∧ ∀ H' t, Same H H' → SqT K H' t ((List.zipWith (· - ·) xs ys).map V.int) → Q (.ref t) H'
def sp_multiply (K : PySem.W.Frag) : Sp := fun vs H Q _ => ∃ (f : Int) (a : Addr) (xs : List Int), vs = [.int f, .ref a] ∧ SqT K H a (xs.map V.int) ∧ xs.length ≤ 100 ∧ Sz 1000 f ∧ (∀ x ∈ xs, Sz 1000 x) ∧ ∀ H' t, Same H H' → SqT K H' t ((xs.map (f * ·)).map V.int) → Q (.ref t) H'
def sp_with_constant_added (K : PySem.W.Frag) : Sp := fun vs H Q _ => ∃ (a : Addr) (c : List Int) (d x : Int), vs = [.ref a, .int x] ∧ SqT K H a ((c ++ [d]).map V.int) ∧ c.length ≤ 900 ∧ ∀ H' t, Same H H' → SqT K H' t ((c ++ [d + x]).map V.int) → Q (.ref t) H'
/-! ### expressions in memory -/
def ExT (K : PySem.W.Frag) (H : Hp) (a : Addr) (x : Ex) : Prop := SqT K H a (x.e.map V.int)
theorem ex_stay {K : PySem.W.Frag} : Stay (ExT K) := ⟨fun h s => sameT s h, fun e h => sqT_upd e h⟩
theorem ex_list {x : Ex} : x.e.map V.int = x.1.map V.int ++ [V.int x.2] := by rw [Ex.e, List.map_append]; rfl
theorem ct_stay {K : PySem.W.Frag} : Stay (CtT K) := ⟨fun h s => h.same s, fun e ⟨b, h1, h2⟩ => ⟨b, sqT_upd e h1, sqT_upd e h2⟩⟩
theorem at_co {k : Nat} {x : Ex} (h : k < x.1.length) : atI (x.e.map V.int) (k : Int) = some (V.int (co k x)) := by
  refine atI_nat ?_
  rw [List.getElem?_map, Ex.e, List.getElem?_append_left h, co, List.getD_eq_getElem?_getD, List.getElem?_eq_getElem h]
  rfl
def sp_without (K : PySem.W.Frag) : Sp := fun vs H Q _ => ∃ (a : Addr) (x : Ex) (k : Nat), vs = [.ref a, .int (k : Int)] ∧ ExT K H a x ∧ k < x.1.length ∧ x.1.length ≤ 100 ∧ ∀ H' t, Same H H' → ExT K H' t (wo k x.1, x.2) → Q (.ref t) H'
def sp_changed (K : PySem.W.Frag) : Sp := fun vs H Q _ => ∃ (x e : Addr) (t : Ct) (y : Ex), vs = [.ref x, .ref e] ∧ CtT K H x t ∧ ExT K H e y ∧ ∀ H' z, Same H H' → CtT K H' z ⟨t.k, y.1, y.2⟩ → Q (.ref z) H'
def sp_common_multiple (K : PySem.W.Frag) : Sp := fun vs H Q _ => ∃ (l : Addr) (ms : List Int), vs = [.ref l] ∧ SqL K H l (ms.map V.int) ∧ (∀ m ∈ ms, 1 ≤ m ∧ Sz 64 m) ∧ ms.length ≤ 100 ∧ Q (.int (lcmL ms)) H
def Kd.hd : Kd → List V
  | .ge => [.str "ge"]
  | .eq => [.str "eq"]
  | .div m => [.str "div", .int m]
theorem kv_hd (k : Kd) (a : Addr) : k.v a = k.hd ++ [V.ref a] := by cases k <;> rfl
theorem lcm1_le {a m : Int} (ha : 1 ≤ a) (hm : 1 ≤ m) : lcm1 a m ≤ a * m := by
  unfold lcm1
  have h1 : a.natAbs.lcm m.natAbs ≤ a.natAbs * m.natAbs := by
    unfold Nat.lcm
    exact Nat.div_le_self _ _
  have h2 : ((a.natAbs * m.natAbs : Nat) : Int) = a * m := by
    rw [Int.natCast_mul]
    congr 1 <;> omega
  omega
theorem lcmL_snoc (l : List Int) (x : Int) : lcmL (l ++ [x]) = lcm1 (lcmL l) x := by rw [lcmL, List.foldl_append]; rfl
theorem lcmL_bd : ∀ (n : Nat) (l : List Int), l.length = n → (∀ m ∈ l, 1 ≤ m ∧ Sz 64 m) → 1 ≤ lcmL l ∧ Sz (64 * n + 1) (lcmL l)
  | 0, l, h, _ => by
    rw [List.eq_nil_of_length_eq_zero h]
    exact ⟨by decide, show Int.natAbs (1 : Int) < 2 ^ (64 * 0 + 1) by decide⟩
  | n + 1, l, h, hm => by
    obtain ⟨l', x, rfl⟩ : ∃ l' x, l = l' ++ [x] := ⟨l.dropLast, l.getLast (by intro z; rw [z] at h; cases h), (List.dropLast_concat_getLast _).symm⟩
    rw [List.length_append, List.length_singleton] at h
    obtain ⟨h1, h2⟩ := lcmL_bd n l' (by omega) fun m hm' => hm m (List.mem_append_left _ hm')
    have hx := hm x (List.mem_append_right _ (List.mem_singleton.mpr rfl))
    rw [lcmL_snoc]
    have h3 := lcm1_pos h1 hx.1
    refine ⟨h3, ?_⟩
    have h4 := lcm1_le h1 hx.1
    have h5 : Sz (64 * n + 1 + 64) (lcmL l' * x) := Sz.mul h2 hx.2
    have h6 : (lcm1 (lcmL l') x).natAbs ≤ (lcmL l' * x).natAbs := by omega
    rw [show 64 * (n + 1) + 1 = 64 * n + 1 + 64 by omega]
    exact Nat.lt_of_le_of_lt h6 h5
/-- a constraint whose numbers are not too great -/
structure Gn (n : Nat) (t : Ct) : Prop where
  ok : t.k.ok
  len : t.c.length = n
  cs : ∀ x ∈ t.c, Sz 64 x
  ds : Sz 64 t.d
  ms : match t.k with | .div m => Sz 64 m | _ => True
theorem Gn.nz {n : Nat} {t : Ct} (g : Gn n t) (hn : n ≤ 90) : Nz t := by
  refine ⟨by rw [g.len]; exact hn, fun x hx => ?_, ?_⟩
  · rcases List.mem_append.mp hx with h | h
    · exact (g.cs x h).mono (by decide)
    · rw [List.mem_singleton.mp h]
      exact g.ds.mono (by decide)
  · have := g.ms
    cases hk : t.k with
    | div m => rw [hk] at this; exact Sz.mono this (by decide)
    | ge => trivial
    | eq => trivial
theorem Gn.wf {n : Nat} {t : Ct} (g : Gn n t) (hn : n ≤ 90) : Wf n t := ⟨g.ok, g.len, g.nz hn⟩
def Kd.isD : Kd → Bool
  | .div _ => true
  | _ => false
/-- the number of the multiples -/
def nD (ts : List Ct) : Nat := (ts.filter fun t => t.k.isD).length
section
variable {w : World} {K : PySem.W.Frag} {mg : Str → Option Value} {base : Heap} {A : Ad}
theorem ok_add (T : Txt K mg A) : FnOk P w K mg base CX0 1 A.f_add A.d_add ["one", "other"] (sp_add K) := by
  refine T.F_add.ok sc_add (fun vs H Q E h => ?_) (fun cdv A' outer s H vs Q E hr h => ?_)
  · obtain ⟨a, b, xs, ys, rfl, _⟩ := h
    rfl
  · obtain ⟨a, b, xs, ys, rfl, hX, hY, hl, hn, q⟩ := h
    refine ⟨_, (pss_one (ps_ret (pe_callTy call_tuple_of (by rfl) T.b_tuple (by decide +kernel) (pa_cons (pe_lc (own := [("a", 2), ("b", 3)]) (g := (gTup K 2 (gCons (gName 2) (gCons (gName 3) gNil)))) (by rfl) sc_add.nd (RZ.pi_zipA (by rfl) T.b_zip (pa_cons (pv 0) (pa_cons (pv 1) pa_nil))) (blkOk_by (own := [("a", 2), ("b", 3)]) (N := ["one", "other", "a", "b"]) (sc := defScope s_add) (by decide +kernel)) (fun _ _ _ _ _ => (pg_tup rfl (pgs_cons (pg_name (i := 2) sc_add.nd rfl (Or.inl rfl) (Or.inr rfl)) (pgs_cons (pg_name (i := 3) sc_add.nd rfl (Or.inl rfl) (Or.inr rfl)) pgs_nil)))) (fun _ _ _ _ _ => pts_nil) (fun _ _ _ _ _ => (pe_op op_add (pv 2) (pv 3)))) pa_nil)))), ?_⟩
    walk_at "wp"
    refine ⟨_, _, .inr ⟨hX, hY, fun D hD => ?_⟩⟩
    refine lc_ys (walk_zipT (n := ys.length) (by rw [List.length_map, List.length_map, hl]; omega)) ((List.zipWith (· + ·) xs ys).map V.int) hD (by omega) (by rw [List.length_map, List.length_zipWith, hl]; omega) (fun H' s' => ⟨sameT s' hX, sameT s' hY⟩) ypair_same (fun i x y H1 H2 R hi hy s1 yy k => ?_) (fun H' s' e => ?_)
    · obtain ⟨t, x, z, rfl, nt, rfl, e1, e2⟩ := yy
      have hi' : i < xs.length := by omega
      rw [List.getElem?_map, List.getElem?_zipWith, List.getElem?_eq_getElem hi, List.getElem?_eq_getElem hi'] at hy
      dsimp only at e1 e2
      rw [List.getElem?_map, List.getElem?_eq_getElem hi'] at e1
      rw [List.getElem?_map, List.getElem?_eq_getElem hi] at e2
      cases e1
      cases e2
      cases hy
      walk_at "wp"
      refine ⟨_, .inl (.inl upd_same), ?_⟩
      walk_at "wp"
      exact k _ (Same.refl _)
    · exact ⟨_, .inl ⟨SqL.of e, fun t nt => q _ _ (same_upd2 s' (s'.free nt)) (SqT.of upd_same)⟩⟩
theorem ok_multiply (T : Txt K mg A) : FnOk P w K mg base CX0 1 A.f_multiply A.d_multiply ["factor", "expression"] (sp_multiply K) := by
  refine T.F_multiply.ok sc_multiply (fun vs H Q E h => ?_) (fun cdv A' outer s H vs Q E hr h => ?_)
  · obtain ⟨f, a, xs, rfl, _⟩ := h
    rfl
  · obtain ⟨f, a, xs, rfl, hX, hn, hf, hx, q⟩ := h
    refine ⟨_, (pss_one (ps_ret (pe_callTy call_tuple_of (by rfl) T.b_tuple (by decide +kernel) (pa_cons (pe_lc (own := [("number", 2)]) (by rfl) sc_multiply.nd (pi_tup (pv 1)) (blkOk_by (own := [("number", 2)]) (N := ["factor", "expression", "number"]) (sc := defScope s_multiply) (by decide +kernel)) (fun _ _ _ _ _ => (pg_name (i := 2) sc_multiply.nd rfl (Or.inl rfl) (Or.inr rfl))) (fun _ _ _ _ _ => pts_nil) (fun _ _ _ _ _ => (pe_op op_mulX (pv 0) (pv 2)))) pa_nil)))), ?_⟩
    walk_at "wp"
    refine ⟨⟨_, hX⟩, fun D hD => lc_tupI (f * ·) hX hD (by omega) (fun x H' R hm s1 k => ?_) (fun H' s' e' => ?_)⟩
    · walk_at "wp"
      exact ⟨⟨_, _, hf, hx x hm, by decide⟩, k _ (Same.refl _)⟩
    · exact ⟨_, .inl ⟨SqL.of e', fun t nt => q _ _ (same_upd2 s' (s'.free nt)) (SqT.of upd_same)⟩⟩
theorem ok_with_constant_added (T : Txt K mg A) : FnOk P w K mg base CX0 1 A.f_with_constant_added A.d_with_constant_added ["expression", "number"] (sp_with_constant_added K) := by
  refine T.F_with_constant_added.ok sc_with_constant_added (fun vs H Q E h => ?_) (fun cdv A' outer s H vs Q E hr h => ?_)
  · obtain ⟨a, c, d, x, rfl, _⟩ := h
    rfl
  · obtain ⟨a, c, d, x, rfl, hE, hc, q⟩ := h
    refine ⟨_, (pss_one (ps_ret (pe_op op_catA (pe_slice sl_tupA (pv 0) po_none (po_some (pe_un un_neg pe_int))) (pe_tup (pa_cons (pe_op op_add (pe_ix ix_tup (pv 0) (pe_un un_neg pe_int) (fun _ _ => rfl)) (pv 1)) pa_nil))))), ?_⟩
    walk_at "wp"
    have hE' := hE
    rw [List.map_append] at hE'
    refine sl_init hE' fun H1 p1 s1 h1 => ?_
    refine ⟨_, sameT s1 hE, _, atI_lastI, d, rfl, by decide, fun p2 n2 => ?_⟩
    refine cat_sm (sameT (same_upd n2) h1) (SqT.of upd_same) (by rw [List.length_map]; simp; omega) fun H3 p3 s3 h3 => q _ p3 ((s1.trans (same_upd n2)).trans s3) ?_
    rw [List.map_append]
    exact h3
theorem ok_difference (T : Txt K mg A) : FnOk P w K mg base CX0 1 A.f_difference A.d_difference ["one", "other"] (sp_difference K) := by
  refine T.F_difference.ok sc_difference (fun vs H Q E h => ?_) (fun cdv A' outer s H vs Q E hr h => ?_)
  · obtain ⟨a, b, xs, ys, rfl, _⟩ := h
    rfl
  · obtain ⟨a, b, xs, ys, rfl, hX, hY, hl, hn, q⟩ := h
    refine ⟨_, (pss_one (ps_ret (pe_callTy call_tuple_of (by rfl) T.b_tuple (by decide +kernel) (pa_cons (pe_lc (own := [("a", 2), ("b", 3)]) (g := (gTup K 2 (gCons (gName 2) (gCons (gName 3) gNil)))) (by rfl) sc_difference.nd (RZ.pi_zipA (by rfl) T.b_zip (pa_cons (pv 0) (pa_cons (pv 1) pa_nil))) (blkOk_by (own := [("a", 2), ("b", 3)]) (N := ["one", "other", "a", "b"]) (sc := defScope s_difference) (by decide +kernel)) (fun _ _ _ _ _ => (pg_tup rfl (pgs_cons (pg_name (i := 2) sc_difference.nd rfl (Or.inl rfl) (Or.inr rfl)) (pgs_cons (pg_name (i := 3) sc_difference.nd rfl (Or.inl rfl) (Or.inr rfl)) pgs_nil)))) (fun _ _ _ _ _ => pts_nil) (fun _ _ _ _ _ => (pe_op op_sub (pv 2) (pv 3)))) pa_nil)))), ?_⟩
    walk_at "wp"
    refine ⟨_, _, .inr ⟨hX, hY, fun D hD => ?_⟩⟩
    refine lc_ys (walk_zipT (n := ys.length) (by rw [List.length_map, List.length_map, hl]; omega)) ((List.zipWith (· - ·) xs ys).map V.int) hD (by omega) (by rw [List.length_map, List.length_zipWith, hl]; omega) (fun H' s' => ⟨sameT s' hX, sameT s' hY⟩) ypair_same (fun i x y H1 H2 R hi hy s1 yy k => ?_) (fun H' s' e => ?_)
    · obtain ⟨t, x, z, rfl, nt, rfl, e1, e2⟩ := yy
      have hi' : i < xs.length := by omega
      rw [List.getElem?_map, List.getElem?_zipWith, List.getElem?_eq_getElem hi, List.getElem?_eq_getElem hi'] at hy
      dsimp only at e1 e2
      rw [List.getElem?_map, List.getElem?_eq_getElem hi'] at e1
      rw [List.getElem?_map, List.getElem?_eq_getElem hi] at e2
      cases e1
      cases e2
      cases hy
      walk_at "wp"
      refine ⟨_, .inl (.inl upd_same), ?_⟩
      walk_at "wp"
      exact k _ (Same.refl _)
    · exact ⟨_, .inl ⟨SqL.of e, fun t nt => q _ _ (same_upd2 s' (s'.free nt)) (SqT.of upd_same)⟩⟩
theorem ok_without (T : Txt K mg A) : FnOk P w K mg base CX0 1 A.f_without A.d_without ["expression", "k"] (sp_without K) := by
  refine T.F_without.ok sc_without (fun vs H Q E h => ?_) (fun cdv A' outer s H vs Q E hr h => ?_)
  · obtain ⟨a, x, k, rfl, _⟩ := h
    rfl
  · obtain ⟨a, x, k, rfl, hE, hk, hl, q⟩ := h
    refine ⟨_, (pss_one (ps_ret (pe_op op_catA (pe_slice sl_tupA (pv 0) po_none (po_some (pv 1))) (pe_slice sl_tupA (pv 0) (po_some (pe_op op_add (pv 1) pe_int)) po_none)))), ?_⟩
    walk_at "wp"
    refine sl_gen hE fun H1 p1 s1 h1 => sl_gen (sameT s1 hE) fun H2 p2 s2 h2 => ?_
    have hlen : (x.e.map V.int).length = x.1.length + 1 := by rw [List.length_map, Ex.e, List.length_append, List.length_singleton]
    have c1 : cutV (x.e.map V.int) none (some (k : Int)) = (x.e.map V.int).take k := by
      unfold cutV
      rw [HT.sIx_none, HT.sIx_nat, List.drop_zero, Nat.sub_zero, hlen, Nat.min_eq_left (by omega)]
    have c2 : cutV (x.e.map V.int) (some ((k : Int) + 1)) none = (x.e.map V.int).drop (k + 1) := by
      unfold cutV
      rw [HT.sIx_none, show ((k : Int) + 1) = ((k + 1 : Nat) : Int) by omega, HT.sIx_nat, hlen, Nat.min_eq_left (by omega), List.take_of_length_le (by rw [List.length_drop, hlen]; exact Nat.le_refl _)]
    rw [c1] at h1
    rw [c2] at h2
    refine cat_sm (sameT s2 h1) h2 (by rw [List.length_take, List.length_drop, hlen]; omega) fun H3 p3 s3 h3 => q _ p3 ((s1.trans s2).trans s3) ?_
    rw [← List.map_take, ← List.map_drop, ← List.map_append, ← List.eraseIdx_eq_take_drop_succ, Ex.e, List.eraseIdx_append_of_lt_length hk] at h3
    exact h3
theorem ok_changed (T : Txt K mg A) : FnOk P w K mg base CX0 1 A.f_changed A.d_changed ["row", "expression"] (sp_changed K) := by
  refine T.F_changed.ok sc_changed (fun vs H Q E h => ?_) (fun cdv A' outer s H vs Q E hr h => ?_)
  · obtain ⟨x, e, t, y, rfl, _⟩ := h
    rfl
  · obtain ⟨x, e, t, y, rfl, hT, hE, q⟩ := h
    refine ⟨_, (pss_one (ps_ret (pe_op op_catA (pe_slice sl_tupA (pv 0) po_none (po_some (pe_un un_neg pe_int))) (pe_tup (pa_cons (pv 1) pa_nil))))), ?_⟩
    walk_at "wp"
    obtain ⟨a, h1, h2⟩ := hT
    rw [kv_hd] at h1
    refine sl_init h1 fun H1 p1 s1 g1 => ⟨by decide, fun p2 n2 => cat_sm (sameT (same_upd n2) g1) (SqT.of upd_same) (by cases t.k <;> simp [Kd.hd]) fun H3 p3 s3 g3 => ?_⟩
    have s03 := (s1.trans (same_upd (o := .tup [V.ref e]) n2)).trans s3
    exact q _ p3 s03 ⟨e, by rw [kv_hd]; exact g3, sameT s03 hE⟩
theorem ok_common_multiple (T : Txt K mg A) : FnOk P w K mg base CX0 1 A.f_common_multiple A.d_common_multiple ["numbers"] (sp_common_multiple K) := by
  refine T.F_common_multiple.ok sc_common_multiple (fun vs H Q E h => ?_) (fun cdv A' outer s H vs Q E hr h => ?_)
  · obtain ⟨l, ms, rfl, _⟩ := h
    rfl
  · obtain ⟨l, ms, rfl, hL, hm, hl, q⟩ := h
    refine ⟨_, (pss_cons (ps_set (i := 1) sc_common_multiple.nd rfl (Or.inl rfl) pe_int) 
    (pss_cons (ps_for PassesOwn.never rfl (pi_list (pv 0)) (pg_name (i := 2) sc_common_multiple.nd rfl (Or.inl rfl)) 
      (pss_one (ps_set (i := 1) sc_common_multiple.nd rfl (Or.inl rfl) (pe_callBfun cr_lcmW (by rfl) T.u_lcm (pa_cons (pv 1) (pa_cons (pv 2) pa_nil)))))) 
    (pss_one (ps_ret (pv 1))))), ?_⟩
    walk_at "wp"
    refine ⟨⟨_, hL⟩, ?_⟩
    refine loop_it (walk_list (xs := ms.map V.int)) (fun i σ H' => H' = H ∧ ∃ v, σ = [some (V.ref l), some (V.int (lcmL (ms.take i))), v]) ⟨rfl, _, by rw [List.take_zero]; rfl⟩ (fun _ _ _ _ p => by rw [p.1]; exact hL) ?_ ?_
    · rintro i x σ H1 H2 hi ⟨rfl, v, rfl⟩ yy
      obtain ⟨rfl, e⟩ := yat_at yy
      rw [List.length_map] at hi
      rw [List.getElem?_map, List.getElem?_eq_getElem hi] at e
      cases e
      have hb := lcmL_bd i (ms.take i) (by rw [List.length_take]; omega) fun m h => hm m (List.mem_of_mem_take h)
      have hx := hm ms[i] (List.getElem_mem hi)
      walk_at "wp"
      refine ⟨_, _, rfl, hb.2.mono (by omega), hx.2.mono (by decide), rfl, ?_, _, rfl⟩
      rw [List.take_succ_eq_append_getElem hi, lcmL_snoc]
      rfl
    · rintro σ H1 ⟨rfl, v, rfl⟩
      rw [List.length_map, List.take_length]
      walk_at "wp"
      exact q
end
local macro_rules | `(tactic| walk_at "wp") => `(tactic| simp only [tSeq, tCKw, tAsg, tPar, gName, gTup, gCons, gNil, tVar, tC, tOp, tUn, rI, rI0, rU, tCB, tCons, tNil, tIfS, tRet, tRetN, tNext, tNever, test_eq, tB, tTup, tLst, tCall, tCallS, tCallLS, tMakeS, tAddS, tChain, rNotInO, rInO, iEnumT, iEnum, rIsnotB, rIsB, iZipM, tMkO, tIf, tAndV, tOrV, tNotV, tNot, tAnd, tOr, rEq, rNe, scal_ii, scal_ss, scal_bb, dec_ii, dec_ss, dec_bb, for_eq, lc_eq, lc2_eq, while_eq, tDrop, tYes, iList, iTup, iOr, tDNewN, tNSet, rNSet, sFld, tFld, tMake, tProp, tMeth, cxP, cxW, iStr, iRng1, iRng2, RZ.iZipA, L2.start, rIxL, rIxT, rIxS, rSlS, cxK, tSl, tPart, tNoPart, tBM, tBM0, rAppend, rExtend, rRepS, rGcd, s_ge_eq, s_ge_div, s_eq_ge, s_eq_div, s_div_ge, s_div_eq, gSub, rSetL, tAug, ipI, rAdd, rSub, tM1, tM0,
  List.map_cons, List.map_nil, List.length_cons, List.length_nil, List.cons_append, List.nil_append, List.append_nil, List.getElem?_cons_succ, List.getElem?_cons_zero, List.set_cons_succ, List.set_cons_zero, Nat.reduceAdd, Nat.reduceSub, List.replicate_succ, List.replicate_zero, wipe,
  Option.some.injEq, V.int.injEq, V.str.injEq, sgn_eq, V.ref.injEq, V.bl.injEq, exists_eq_left, exists_eq_left', exists_and_left, exists_eq_right, List.cons.injEq, and_true, true_and, ex_bl, ex_int, exists_const, Nat.zero_add, Int.toNat_natCast, Int.zero_add, and_assoc, reduceCtorEq, false_and, and_false, exists_false, or_false, false_or, eq_self, decide_true, decide_false, ite_true, ite_false, if_true, if_false, Bool.false_eq_true, Bool.not_true, Bool.not_false, ↓reduceIte])
theorem maxD_one {K : PySem.W.Frag} {H : Hp} {a : Addr} {ns : List Int} {Q : VK} (h : SqL K H a (ns.map V.int)) (hp : ∀ x ∈ ns, 1 ≤ x) (q : ∀ m : Int, decide (V.int m = V.int 1) = ns.all (fun x => decide (x = 1)) → Q (.int m) H) : rMaxD K [.ref a] [.int 1] H Q := by
  refine ⟨a, ns, 1, rfl, rfl, h, fun z => q 1 (by rw [z]; rfl), fun _ m hm hy => q m ?_⟩
  rw [Bool.eq_iff_iff, decide_eq_true_eq, V.int.injEq, List.all_eq_true]
  constructor
  · intro z x hx
    have := hy x hx
    have := hp x hx
    exact decide_eq_true (by omega)
  · intro z
    exact of_decide_eq_true (z m hm)
/-! ### the object of an elimination -/
abbrev FS := List (Str × V)
def sp_Elimination_rule_for (A : Ad) (K : PySem.W.Frag) : Sp := fun vs H Q _ => ∃ (a dx la ua : Addr) (fs : FS) (k : Nat) (ls us : List (Addr × Ex)) (he hd : Bool), vs = [.ref a, .bl he, .bl hd] ∧ H a = some (.ins A.C_Elimination dx fs) ∧ fs.lookup ("k" : Str) = some (V.int (k : Int)) ∧ fs.lookup ("lowers" : Str) = some (V.ref la) ∧ fs.lookup ("uppers" : Str) = some (V.ref ua) ∧
  SqL K H la (rsv ls) ∧ SqL K H ua (rsv us) ∧ RsAll (ExT K) H ls ∧ RsAll (ExT K) H us ∧ (∀ r ∈ ls, k < r.2.1.length ∧ 0 < co k r.2) ∧ (∀ r ∈ us, k < r.2.1.length ∧ co k r.2 < 0) ∧ ls.length ≤ 5000 ∧ us.length ≤ 5000 ∧
  ∀ H', Same H H' → Q (.int (ruleN he hd (ls.map fun r => co k r.2) (us.map fun r => - co k r.2) : Nat)) H'
def PvT (K : PySem.W.Frag) (H : Hp) (a : Addr) (q : Ex × Int) : Prop := ∃ b, SqT K H a [.ref b, .int q.2] ∧ ExT K H b q.1
theorem pv_stay {K : PySem.W.Frag} : Stay (PvT K) := ⟨fun ⟨b, h1, h2⟩ s => ⟨b, sameT s h1, sameT s h2⟩, fun e ⟨b, h1, h2⟩ => ⟨b, sqT_upd e h1, sqT_upd e h2⟩⟩
def pvL (r k : Nat) (es ls us : List Ex) (m : Int) : List (Ex × Int) := if r = 1 then (es.take 1).map fun e => (e, 1) else if r < 4 then [] else (if r = 4 then ls else us).map fun b => (b, ((co k b).natAbs : Int) * m)
def sp_Elimination_pivots_for (A : Ad) (K : PySem.W.Frag) : Sp := fun vs H Q _ => ∃ (a dx la ua ea : Addr) (fs : FS) (k r : Nat) (es ls us : List (Addr × Ex)) (m : Int), vs = [.ref a, .ref ea] ∧ H a = some (.ins A.C_Elimination dx fs) ∧ fs.lookup ("k" : Str) = some (V.int (k : Int)) ∧ fs.lookup ("lowers" : Str) = some (V.ref la) ∧ fs.lookup ("uppers" : Str) = some (V.ref ua) ∧ fs.lookup ("period" : Str) = some (V.int m) ∧ fs.lookup ("rule" : Str) = some (V.int (r : Int)) ∧
  SqL K H ea (rsv es) ∧ SqL K H la (rsv ls) ∧ SqL K H ua (rsv us) ∧ RsAll (ExT K) H es ∧ RsAll (ExT K) H ls ∧ RsAll (ExT K) H us ∧ (∀ b ∈ ls, k < b.2.1.length ∧ Sz 64 (co k b.2)) ∧ (∀ b ∈ us, k < b.2.1.length ∧ Sz 64 (co k b.2)) ∧ Sz 6500 m ∧ (r = 1 → es ≠ []) ∧ ls.length ≤ 5000 ∧ us.length ≤ 5000 ∧
  ∀ H' D rs, Same H H' → SqL K H' D (rsv rs) → RsAll (PvT K) H' rs → rs.map (·.2) = pvL r k (es.map (·.2)) (ls.map (·.2)) (us.map (·.2)) m → Q (.ref D) H'
theorem abs_if (i : Int) : (if i < 0 then -i else i) = (i.natAbs : Int) := by split <;> omega
theorem Sz.abs {n : Nat} {i : Int} (h : Sz n i) : Sz n (i.natAbs : Int) := by
  unfold Sz at *
  rw [Int.natAbs_natCast]
  exact h
section
variable {w : World} {K : PySem.W.Frag} {mg : Str → Option Value} {base : Heap} {A : Ad}
theorem ok_Elimination_rule_for (T : Txt K mg A) : FnOk P w K mg base CX0 1 A.f_Elimination_rule_for A.d_Elimination_rule_for ["self", "has_equations", "has_divisors"] (sp_Elimination_rule_for A K) := by
  refine T.F_Elimination_rule_for.ok sc_Elimination_rule_for (fun vs H Q E h => ?_) (fun cdv A' outer s H vs Q E hr h => ?_)
  · obtain ⟨a, dx, la, ua, fs, k, ls, us, he, hd, rfl, _⟩ := h
    rfl
  · obtain ⟨a, dx, la, ua, fs, k, ls, us, he, hd, rfl, hO, fk, fl, fu, hL, hU, aL, aU, cL, cU, nL, nU, q⟩ := h
    refine ⟨_, (pss_cons (ps_if (pt_val (pv 1)) 
      (pss_one (ps_ret pe_int)) pss_nil) 
    (pss_cons (ps_setLc (i := 3) (own := [("expression", 4)]) (by rfl) sc_Elimination_rule_for.nd rfl rfl (sw_true rfl rfl rfl (by decide +kernel)) (pi_list (pe_fld (pv 0) rfl)) (blkOk_by (own := [("expression", 4)]) (N := ["self", "has_equations", "has_divisors", "a", "expression", "b"]) (sc := defScope s_Elimination_rule_for) (by decide +kernel)) (fun _ _ _ _ _ => (pg_name (i := 4) sc_Elimination_rule_for.nd rfl (Or.inl rfl) (Or.inr rfl))) (fun _ _ _ _ _ => pts_nil) (fun _ _ _ _ _ => (pe_ix (r := rIxT K) ix_tup (pv 4) (pe_fldK (K := K) (pv 0) (by rfl) (by rfl)) (fun _ _ => rfl)))) 
    (pss_cons (ps_setLc (i := 5) (own := [("expression", 4)]) (by rfl) sc_Elimination_rule_for.nd rfl rfl (sw_true rfl rfl rfl (by decide +kernel)) (pi_list (pe_fld (pv 0) rfl)) (blkOk_by (own := [("expression", 4)]) (N := ["self", "has_equations", "has_divisors", "a", "expression", "b"]) (sc := defScope s_Elimination_rule_for) (by decide +kernel)) (fun _ _ _ _ _ => (pg_name (i := 4) sc_Elimination_rule_for.nd rfl (Or.inl rfl) (Or.inr rfl))) (fun _ _ _ _ _ => pts_nil) (fun _ _ _ _ _ => (pe_un un_neg (pe_ix (r := rIxT K) ix_tup (pv 4) (pe_fldK (K := K) (pv 0) (by rfl) (by rfl)) (fun _ _ => rfl))))) 
    (pss_cons (ps_if (PW.pt (pw_and (pt_not (pt_val (pv 2))) (pw_and1 (PW.pt (pw_or (pt_cmpR op_eq (pe_callBK (cr_maxD rfl) (by rfl) T.b_max (by decide +kernel) (pa_cons (pv 3) pa_nil) (pk_cons pe_int pk_nil)) pe_int (nomark _)) (pw_or1 (pt_cmpR op_eq (pe_callBK (cr_maxD rfl) (by rfl) T.b_max (by decide +kernel) (pa_cons (pv 5) pa_nil) (pk_cons pe_int pk_nil)) pe_int (nomark _)))))))) 
      (pss_one (ps_ret pe_int)) pss_nil) 
    (pss_cons (ps_if (PW.pt (pw_and (pt_cmpR op_eq (pe_callB call_len_seq (by rfl) T.b_len (by decide +kernel) (pa_cons (pv 3) pa_nil)) pe_int (nomark _)) (pw_and1 (pt_cmpR op_eq (pe_callB call_len_seq (by rfl) T.b_len (by decide +kernel) (pa_cons (pv 5) pa_nil)) pe_int (nomark _))))) 
      (pss_one (ps_ret pe_int)) pss_nil) 
    (pss_one (ps_ret (pe_ifExp (PW.pt (pw_or (pt_cmpR op_eq (pe_callB call_len_seq (by rfl) T.b_len (by decide +kernel) (pa_cons (pv 5) pa_nil)) pe_int (nomark _)) (pw_or1 (PW.pt (pw_and (pt_cmpR op_gt (pe_callB call_len_seq (by rfl) T.b_len (by decide +kernel) (pa_cons (pv 3) pa_nil)) pe_int (nomark _)) (pw_and1 (pt_cmpR op_le (pe_callB (cr_sum rfl) (by rfl) T.b_sum (by decide +kernel) (pa_cons (pv 3) pa_nil)) (pe_callB (cr_sum rfl) (by rfl) T.b_sum (by decide +kernel) (pa_cons (pv 5) pa_nil)) (nomark _)))))))) pe_int pe_int)))))))), ?_⟩
    walk_at "wp"
    cases he with
    | true =>
      rw [if_pos rfl]
      exact q _ (Same.refl _)
    | false =>
      rw [if_neg (by decide)]
      refine ⟨A.C_Elimination, dx, _, hO, T.cl_Elimination, T.na_Elimination_lowers, _, fl, la, rfl, ⟨_, hL⟩, fun D hD => lc_objV (fun r => V.int (co k r.2)) hL hD (by omega) (fun r H' R hm s1 kk => ?_) (fun H1 s1 e1 => ?_)⟩
      · walk_at "wp"
        exact ⟨A.C_Elimination, dx, _, s1 _ _ hO, T.cl_Elimination, T.na_Elimination_k, _, fk, _, _, rfl, sameT s1 (aL r hm), _, at_co (cL r hm).1, kk _ (Same.refl _)⟩
      · refine ⟨A.C_Elimination, dx, _, s1 _ _ hO, T.cl_Elimination, T.na_Elimination_uppers, _, fu, ua, rfl, ⟨_, s1.seq hU⟩, fun D' hD' => lc_objV (fun r => V.int (- co k r.2)) (s1.seq hU) hD' (by omega) (fun r H' R hm s2 kk => ?_) (fun H2 s2 e2 => ?_)⟩
        · walk_at "wp"
          exact ⟨A.C_Elimination, dx, _, (s1.trans s2) _ _ hO, T.cl_Elimination, T.na_Elimination_k, _, fk, _, _, rfl, sameT (s1.trans s2) (aU r hm), _, at_co (cU r hm).1, _, rfl, kk _ (Same.refl _)⟩
        · have sA := SqL.of (K := K) (s2 _ _ e1)
          have sB := SqL.of (K := K) e2
          rw [show (ls.map fun r => V.int (co k r.2)) = (ls.map fun r => co k r.2).map V.int by rw [List.map_map]; rfl] at sA
          rw [show (us.map fun r => V.int (- co k r.2)) = (us.map fun r => - co k r.2).map V.int by rw [List.map_map]; rfl] at sB
          have pA : ∀ x ∈ ls.map fun r => co k r.2, 1 ≤ x := fun x hx => by
            obtain ⟨r, hr, rfl⟩ := List.mem_map.mp hx
            have := (cL r hr).2
            omega
          have pB : ∀ x ∈ us.map fun r => - co k r.2, 1 ≤ x := fun x hx => by
            obtain ⟨r, hr, rfl⟩ := List.mem_map.mp hx
            have := (cU r hr).2
            omega
          generalize (ls.map fun r => co k r.2) = al at *
          generalize (us.map fun r => - co k r.2) = bl at *
          have q' : ∀ n : Nat, ruleN false hd al bl = n → Q (.int (n : Int)) H2 := fun n e => by
            rw [← e]
            exact q _ (s1.trans s2)
          have nz : ∀ {l : List Int}, l ≠ [] → ¬ decide ((l.length : Int) = 0) = true := fun {l} h z => h (List.eq_nil_of_length_eq_zero (by have := of_decide_eq_true z; omega))
          have ps : ∀ {l : List Int}, l ≠ [] → decide (0 < (l.length : Int)) = true := fun {l} h => decide_eq_true (by have := List.length_pos_iff.mpr h; omega)
          have ie : ∀ {l : List Int}, l ≠ [] → l.isEmpty = false := fun {l} h => by cases l with | nil => exact absurd rfl h | cons _ _ => rfl
          have RR : ruleN false true al bl = if al.isEmpty && bl.isEmpty then 3 else if bl.isEmpty || (!al.isEmpty && decide (al.sum ≤ bl.sum)) then 4 else 5 := rfl
          have R2 : ruleN false false al bl = if (al.all (fun x => decide (x = 1)) || bl.all (fun x => decide (x = 1))) = true then 2 else if al.isEmpty && bl.isEmpty then 3 else if bl.isEmpty || (!al.isEmpty && decide (al.sum ≤ bl.sum)) then 4 else 5 := rfl
          cases hd with
          | false =>
            rw [if_pos (by rfl)]
            refine maxD_one sA pA fun m em => ⟨rfl, ?_⟩
            rw [em]
            by_cases h1 : al.all (fun x => decide (x = 1)) = true
            · rw [if_pos h1]
              exact q' 2 (by rw [R2, h1]; rfl)
            · rw [if_neg h1]
              refine maxD_one sB pB fun m' em' => ⟨rfl, ?_⟩
              rw [em']
              by_cases h2 : bl.all (fun x => decide (x = 1)) = true
              · rw [if_pos h2]
                exact q' 2 (by rw [R2, h2, Bool.or_true]; rfl)
              · rw [if_neg h2]
                have R3 : ruleN false false al bl = if al.isEmpty && bl.isEmpty then 3 else if bl.isEmpty || (!al.isEmpty && decide (al.sum ≤ bl.sum)) then 4 else 5 := by
                  rw [R2, if_neg (by rw [Bool.not_eq_true] at h1 h2; rw [h1, h2]; decide)]
                refine ⟨_, .inl sA, ?_⟩
                rw [List.length_map]
                by_cases ha : al = []
                · rw [if_pos (by rw [ha]; rfl)]
                  refine ⟨_, .inl sB, ?_⟩
                  rw [List.length_map]
                  by_cases hb : bl = []
                  · rw [if_pos (by rw [hb]; rfl)]
                    exact q' 3 (by rw [R3, ha, hb]; rfl)
                  · rw [if_neg (nz hb)]
                    refine ⟨_, .inl sB, ?_⟩
                    rw [List.length_map, if_neg (nz hb)]
                    refine ⟨_, .inl sA, ?_⟩
                    rw [List.length_map, if_neg (by rw [ha]; decide)]
                    exact q' 5 (by rw [R3, ha, ie hb]; rfl)
                · rw [if_neg (nz ha)]
                  refine ⟨_, .inl sB, ?_⟩
                  rw [List.length_map]
                  by_cases hb : bl = []
                  · rw [if_pos (by rw [hb]; rfl)]
                    exact q' 4 (by rw [R3, ie ha, hb]; rfl)
                  · rw [if_neg (nz hb)]
                    refine ⟨_, .inl sA, ?_⟩
                    rw [List.length_map, if_pos (ps ha)]
                    refine ⟨D, al, rfl, sA, D', bl, rfl, sB, _, rfl, _, rfl, ?_⟩
                    by_cases hs : al.sum ≤ bl.sum
                    · rw [if_pos (decide_eq_true hs)]
                      exact q' 4 (by rw [R3, ie ha, ie hb, if_neg (by decide), if_pos (by rw [decide_eq_true hs]; rfl)])
                    · rw [if_neg (by rw [decide_eq_false hs]; decide)]
                      exact q' 5 (by rw [R3, ie ha, ie hb, if_neg (by decide), if_neg (by rw [decide_eq_false hs]; decide)])
          | true =>
            rw [if_neg (by decide)]
            refine ⟨_, .inl sA, ?_⟩
            rw [List.length_map]
            by_cases ha : al = []
            · rw [if_pos (by rw [ha]; rfl)]
              refine ⟨_, .inl sB, ?_⟩
              rw [List.length_map]
              by_cases hb : bl = []
              · rw [if_pos (by rw [hb]; rfl)]
                exact q' 3 (by rw [RR, ha, hb]; rfl)
              · rw [if_neg (nz hb)]
                refine ⟨_, .inl sB, ?_⟩
                rw [List.length_map, if_neg (nz hb)]
                refine ⟨_, .inl sA, ?_⟩
                rw [List.length_map, if_neg (by rw [ha]; decide)]
                exact q' 5 (by rw [RR, ha, ie hb]; rfl)
            · rw [if_neg (nz ha)]
              refine ⟨_, .inl sB, ?_⟩
              rw [List.length_map]
              by_cases hb : bl = []
              · rw [if_pos (by rw [hb]; rfl)]
                exact q' 4 (by rw [RR, ie ha, hb]; rfl)
              · rw [if_neg (nz hb)]
                refine ⟨_, .inl sA, ?_⟩
                rw [List.length_map, if_pos (ps ha)]
                refine ⟨D, al, rfl, sA, D', bl, rfl, sB, _, rfl, _, rfl, ?_⟩
                by_cases hs : al.sum ≤ bl.sum
                · rw [if_pos (decide_eq_true hs)]
                  exact q' 4 (by rw [RR, ie ha, ie hb, if_neg (by decide), if_pos (by rw [decide_eq_true hs]; rfl)])
                · rw [if_neg (by rw [decide_eq_false hs]; decide)]
                  exact q' 5 (by rw [RR, ie ha, ie hb, if_neg (by decide), if_neg (by rw [decide_eq_false hs]; decide)])
theorem ok_Elimination_pivots_for (T : Txt K mg A) : FnOk P w K mg base CX0 1 A.f_Elimination_pivots_for A.d_Elimination_pivots_for ["self", "equations"] (sp_Elimination_pivots_for A K) := by
  refine T.F_Elimination_pivots_for.ok sc_Elimination_pivots_for (fun vs H Q E h => ?_) (fun cdv A' outer s H vs Q E hr h => ?_)
  · obtain ⟨a, dx, la, ua, ea, fs, k, r, es, ls, us, m, rfl, _⟩ := h
    rfl
  · obtain ⟨a, dx, la, ua, ea, fs, k, r, es, ls, us, m, rfl, hO, fk, fl, fu, fp, fr, hE, hL, hU, aE, aL, aU, cL, cU, hm, h1, nL, nU, q⟩ := h
    refine ⟨_, (pss_cons (ps_if (pt_cmpR op_eq (pe_fld (pv 0) rfl) pe_int (nomark _)) 
      (pss_one (ps_ret (pe_lst (pa_cons (pe_tup (pa_cons (pe_ix ix_list (pv 1) pe_int (fun _ _ => rfl)) (pa_cons pe_int pa_nil))) pa_nil)))) pss_nil) 
    (pss_cons (ps_if (pt_cmpR op_lt (pe_fld (pv 0) rfl) pe_int (nomark _)) 
      (pss_one (ps_ret (pe_lst pa_nil))) pss_nil) 
    (pss_cons (ps_set (i := 2) sc_Elimination_pivots_for.nd rfl (Or.inl rfl) (pe_ifExp (pt_cmpR op_eq (pe_fld (pv 0) rfl) pe_int (nomark _)) (pe_fld (pv 0) rfl) (pe_fld (pv 0) rfl))) 
    (pss_one (ps_ret (pe_lc (own := [("bound", 3)]) (by rfl) sc_Elimination_pivots_for.nd (pi_list (pv 2)) (blkOk_by (own := [("bound", 3)]) (N := ["self", "equations", "bounds", "bound"]) (sc := defScope s_Elimination_pivots_for) (by decide +kernel)) (fun _ _ _ _ _ => (pg_name (i := 3) sc_Elimination_pivots_for.nd rfl (Or.inl rfl) (Or.inr rfl))) (fun _ _ _ _ _ => pts_nil) (fun _ _ _ _ _ => (pe_tup (pa_cons (pv 3) (pa_cons (pe_op op_mulX (pe_callB call_abs (by rfl) T.b_abs (by decide +kernel) (pa_cons (pe_ix (r := rIxT K) ix_tup (pv 3) (pe_fldK (K := K) (pv 0) (by rfl) (by rfl)) (fun _ _ => rfl)) pa_nil)) (pe_fldK (K := K) (pv 0) (by rfl) (by rfl))) pa_nil)))))))))), ?_⟩
    walk_at "wp"
    refine ⟨A.C_Elimination, dx, _, hO, T.cl_Elimination, T.na_Elimination_rule, _, fr, rfl, ?_⟩
    rw [dec_ii]
    by_cases r1 : r = 1
    · rw [if_pos (decide_eq_true (by omega))]
      obtain ⟨e, es', rfl⟩ : ∃ e es', es = e :: es' := by
        cases es with
        | nil => exact absurd rfl (h1 r1)
        | cons e es' => exact ⟨e, es', rfl⟩
      refine ⟨_, hE, V.ref e.1, (show atI _ ((0 : Nat) : Int) = some (V.ref e.1) from atI_nat rfl), by decide, fun p np => ⟨by decide, fun D nD => ?_⟩⟩
      have s1 := same_upd (o := .tup [V.ref e.1, V.int 1]) np
      have s2 := same_upd (o := .lst [V.ref p]) nD
      refine q _ D [(p, (e.2, 1))] (s1.trans s2) (SqL.of upd_same) (fun r hr => ?_) (by rw [pvL, if_pos r1]; rfl)
      rw [List.mem_singleton.mp hr]
      exact ⟨e.1, sameT s2 (SqT.of upd_same), sameT (s1.trans s2) (aE e List.mem_cons_self)⟩
    · rw [if_neg (by rw [decide_eq_true_eq]; omega)]
      refine ⟨A.C_Elimination, dx, _, hO, T.cl_Elimination, T.na_Elimination_rule, _, fr, _, rfl, ?_⟩
      by_cases r4 : r < 4
      · rw [if_pos (decide_eq_true (by omega))]
        exact ⟨by decide, fun D nD => q _ D [] (same_upd nD) (SqL.of upd_same) (fun r hr => by cases hr) (by rw [pvL, if_neg r1, if_pos r4]; rfl)⟩
      · rw [if_neg (by rw [decide_eq_true_eq]; omega)]
        rw [pvL, if_neg r1, if_neg r4] at q
        refine ⟨A.C_Elimination, dx, _, hO, T.cl_Elimination, T.na_Elimination_rule, _, fr, rfl, ?_⟩
        rw [dec_ii]
        by_cases r5 : r = 4
        · rw [if_pos (decide_eq_true (by omega))]
          rw [if_pos r5] at q
          refine ⟨A.C_Elimination, dx, _, hO, T.cl_Elimination, T.na_Elimination_lowers, _, fl, la, rfl, ⟨_, hL⟩, fun D hD => lc_rs (P := PvT K) pv_stay (walk_list (xs := rsv ls)) ((ls.map (·.2)).map fun b => (b, ((co k b).natAbs : Int) * m)) hD (by rw [rsv, List.length_map]; omega) (by rw [rsv, List.length_map, List.length_map, List.length_map]) (fun H' s => s.seq hL) yat_same (fun i x y H1 H2 R hi hy s1 yy kR => ?_) (fun H' rs s1 e1 a1 r1 => ?_)⟩
          · obtain ⟨rfl, e⟩ := yat_at yy
            rw [rsv, List.length_map] at hi
            rw [rsv, List.getElem?_map, List.getElem?_eq_getElem hi] at e
            rw [List.getElem?_map, List.getElem?_map, List.getElem?_eq_getElem hi] at hy
            cases e
            cases hy
            have hm' := List.getElem_mem hi
            generalize ls[i] = b at *
            walk_at "wp"
            refine ⟨A.C_Elimination, dx, _, s1 _ _ hO, T.cl_Elimination, T.na_Elimination_k, _, fk, _, _, rfl, sameT s1 (aL b hm'), _, at_co (cL b hm').1, _, rfl, A.C_Elimination, dx, _, s1 _ _ hO, T.cl_Elimination, T.na_Elimination_period, _, fp, _, rfl, ?_⟩
            rw [abs_if]
            exact ⟨⟨64, 6500, Sz.abs (cL b hm').2, hm, by decide⟩, by decide, fun p np => kR _ p (same_upd np) ⟨b.1, SqT.of upd_same, sameT (s1.trans (same_upd np)) (aL b hm')⟩⟩
          · exact q _ _ rs s1 (SqL.of e1) a1 r1
        · rw [if_neg (by rw [decide_eq_true_eq]; omega)]
          rw [if_neg r5] at q
          refine ⟨A.C_Elimination, dx, _, hO, T.cl_Elimination, T.na_Elimination_uppers, _, fu, ua, rfl, ⟨_, hU⟩, fun D hD => lc_rs (P := PvT K) pv_stay (walk_list (xs := rsv us)) ((us.map (·.2)).map fun b => (b, ((co k b).natAbs : Int) * m)) hD (by rw [rsv, List.length_map]; omega) (by rw [rsv, List.length_map, List.length_map, List.length_map]) (fun H' s => s.seq hU) yat_same (fun i x y H1 H2 R hi hy s1 yy kR => ?_) (fun H' rs s1 e1 a1 r1 => ?_)⟩
          · obtain ⟨rfl, e⟩ := yat_at yy
            rw [rsv, List.length_map] at hi
            rw [rsv, List.getElem?_map, List.getElem?_eq_getElem hi] at e
            rw [List.getElem?_map, List.getElem?_map, List.getElem?_eq_getElem hi] at hy
            cases e
            cases hy
            have hm' := List.getElem_mem hi
            generalize us[i] = b at *
            walk_at "wp"
            refine ⟨A.C_Elimination, dx, _, s1 _ _ hO, T.cl_Elimination, T.na_Elimination_k, _, fk, _, _, rfl, sameT s1 (aU b hm'), _, at_co (cU b hm').1, _, rfl, A.C_Elimination, dx, _, s1 _ _ hO, T.cl_Elimination, T.na_Elimination_period, _, fp, _, rfl, ?_⟩
            rw [abs_if]
            exact ⟨⟨64, 6500, Sz.abs (cU b hm').2, hm, by decide⟩, by decide, fun p np => kR _ p (same_upd np) ⟨b.1, SqT.of upd_same, sameT (s1.trans (same_upd np)) (aU b hm')⟩⟩
          · exact q _ _ rs s1 (SqL.of e1) a1 r1
end
local macro_rules | `(tactic| walk_at "wp") => `(tactic| simp only [tSeq, tCKw, tAsg, tPar, gName, gTup, gCons, gNil, tVar, tC, tOp, tUn, rI, rI0, rU, tCB, tCons, tNil, tIfS, tRet, tRetN, tNext, tNever, test_eq, tB, tTup, tLst, tCall, tCallS, tCallLS, tMakeS, tAddS, tChain, rNotInO, rInO, iEnumT, iEnum, rIsnotB, rIsB, iZipM, tMkO, tIf, tAndV, tOrV, tNotV, tNot, tAnd, tOr, rEq, rNe, scal_ii, scal_ss, scal_bb, dec_ii, dec_ss, dec_bb, for_eq, lc_eq, lc2_eq, while_eq, tDrop, tYes, iList, iTup, iOr, tDNewN, tNSet, rNSet, sFld, tFld, tMake, tProp, tMeth, cxP, cxW, iStr, iRng1, iRng2, RZ.iZipA, L2.start, rIxL, rIxT, rIxS, rSlS, cxK, tSl, tPart, tNoPart, tBM, tBM0, rAppend, rExtend, rRepS, rGcd, s_ge_eq, s_ge_div, s_eq_ge, s_eq_div, s_div_ge, s_div_eq, gSub, rSetL, tAug, ipI, rAdd, rSub, tM1, tM0,
  List.map_cons, List.map_nil, List.length_cons, List.length_nil, List.cons_append, List.nil_append, List.append_nil, List.getElem?_cons_succ, List.getElem?_cons_zero, List.set_cons_succ, List.set_cons_zero, Nat.reduceAdd, Nat.reduceSub, List.replicate_succ, List.replicate_zero, wipe,
  Option.some.injEq, V.int.injEq, V.str.injEq, sgn_eq, V.ref.injEq, V.bl.injEq, exists_eq_left, exists_eq_left', exists_and_left, exists_eq_right, List.cons.injEq, and_true, true_and, ex_bl, ex_int, exists_const, Nat.zero_add, Int.toNat_natCast, Int.zero_add, and_assoc, reduceCtorEq, false_and, and_false, exists_false, or_false, false_or, eq_self, decide_true, decide_false, ite_true, ite_false, if_true, if_false, Bool.false_eq_true, Bool.not_true, Bool.not_false, ↓reduceIte])
/-- [f(x) for x in xs if b(x)], new objects from objects -/
theorem lc_rsG {α β : Type} {P2 : Hp → Addr → β → Prop} (st : Stay P2) {J : It} {G : Hp → Prop} {rs : List (Addr × α)} (w : Walk J (rsv rs).length G (YAt (rsv rs))) {g : TG} {tt : TT} {te : TE} {vs : List Nat} {σ : L2.St} {H1 : Hp} {D : Addr} {Qd : Hp → Prop} (b : α → Bool) (f : α → β) (hD : H1 D = none) (hn : rs.length ≤ 1000000) (hG : ∀ H', Same H1 H' → G H')
    (hs : ∀ r H' (N : Hp → Prop) (R : VK), r ∈ rs → Same H1 H' → (b r.2 = false → ∀ H4, Same H' H4 → N H4) → (b r.2 = true → ∀ H4 a, Same H' H4 → P2 H4 a (f r.2) → R (.ref a) H4) → g (.ref r.1) (wipe σ vs) H' fun σ2 H2 => wipe σ2 vs = wipe σ vs ∧ tt σ2 H2 fun b H3 => if b = true then te σ2 H3 R else N H3)
    (hd : ∀ H' qs, Same H1 H' → H' D = some (.lst (rsv qs)) → RsAll P2 H' qs → qs.map (·.2) = ((rs.map (·.2)).filter b).map f → Qd H') : LoopC J g tt te vs σ H1 D Qd := by
  refine lc_rsF st w (fun i => (((rs.map (·.2)).take i).filter b).map f) rfl hD (by rw [rsv, List.length_map]; exact hn) (fun i _ => ?_) hG yat_same (fun i x H H' N R hi s1 y kN kR => ?_) (fun H' qs s e a hr => hd H' qs s e a (by rw [hr, rsv, List.length_map, List.take_of_length_le (by rw [List.length_map]; exact Nat.le_refl _)]))
  · rw [List.length_map]
    exact Nat.le_trans (List.length_filter_le _ _) (by rw [List.length_take]; omega)
  · obtain ⟨rfl, e⟩ := yat_at y
    rw [rsv, List.length_map] at hi
    rw [rsv, List.getElem?_map, List.getElem?_eq_getElem hi] at e
    cases e
    have et : (rs.map (·.2)).take (i + 1) = (rs.map (·.2)).take i ++ [rs[i].2] := by
      rw [List.take_succ_eq_append_getElem (by rw [List.length_map]; exact hi), List.getElem_map]
    rw [et, List.filter_append, List.map_append] at kN kR
    have hm := List.getElem_mem hi
    generalize rs[i] = r at *
    refine hs r _ N R hm s1 (fun hb => kN (by rw [List.filter_cons, hb, if_neg (by decide), List.filter_nil, List.map_nil, List.append_nil])) (fun hb => kR (f r.2) (by rw [List.filter_cons, hb, if_pos rfl, List.filter_nil]; rfl))
/-- the same, values -/
theorem lc_vsG {α : Type} {J : It} {G : Hp → Prop} {rs : List (Addr × α)} (w : Walk J (rsv rs).length G (YAt (rsv rs))) {g : TG} {tt : TT} {te : TE} {vs : List Nat} {σ : L2.St} {H1 : Hp} {D : Addr} {Qd : Hp → Prop} (b : α → Bool) (f : α → V) (hD : H1 D = none) (hn : rs.length ≤ 1000000) (hG : ∀ H', Same H1 H' → G H')
    (hs : ∀ r H' (N : Hp → Prop) (R : VK), r ∈ rs → Same H1 H' → (b r.2 = false → ∀ H4, Same H' H4 → N H4) → (b r.2 = true → ∀ H4, Same H' H4 → R (f r.2) H4) → g (.ref r.1) (wipe σ vs) H' fun σ2 H2 => wipe σ2 vs = wipe σ vs ∧ tt σ2 H2 fun b H3 => if b = true then te σ2 H3 R else N H3)
    (hd : ∀ H', Same H1 H' → H' D = some (.lst (((rs.map (·.2)).filter b).map f)) → Qd H') : LoopC J g tt te vs σ H1 D Qd := by
  refine loopc_it w (fun i H => Same H1 H ∧ H D = some (.lst ((((rs.map (·.2)).take i).filter b).map f))) ⟨same_upd hD, upd_same⟩ (fun i H _ p => hG H p.1) (fun i x H H' hi p y => ?_) (fun H p => hd H p.1 (by rw [p.2, rsv, List.length_map, List.take_of_length_le (by rw [List.length_map]; exact Nat.le_refl _)]))
  obtain ⟨rfl, e⟩ := yat_at y
  rw [rsv, List.length_map] at hi
  rw [rsv, List.getElem?_map, List.getElem?_eq_getElem hi] at e
  cases e
  have et : (rs.map (·.2)).take (i + 1) = (rs.map (·.2)).take i ++ [rs[i].2] := by
    rw [List.take_succ_eq_append_getElem (by rw [List.length_map]; exact hi), List.getElem_map]
  rw [et, List.filter_append, List.map_append]
  have hm := List.getElem_mem hi
  generalize rs[i] = r at *
  refine hs r _ _ _ hm p.1 (fun hb H4 s4 => ⟨p.1.trans s4, ?_⟩) (fun hb H4 s4 => ⟨_, s4 _ _ p.2, ?_, same_upd2 (p.1.trans s4) hD, ?_⟩)
  · rw [List.filter_cons, hb, if_neg (by decide), List.filter_nil, List.map_nil, List.append_nil]
    exact s4 _ _ p.2
  · rw [List.length_map]
    exact smallM (Nat.le_trans (List.length_filter_le _ _) (by rw [List.length_take]; omega))
  · rw [upd_same, List.filter_cons, hb, if_pos rfl, List.filter_nil]
    rfl
/-- an elimination in memory -/
def el0 (s : Addr) (k : Nat) : FS := putF ("k" : Str) (.int (k : Int)) (putF ("system" : Str) (.ref s) [])
def el1 (s : Addr) (k : Nat) (oa la ua : Addr) : FS := putF ("uppers" : Str) (.ref ua) (putF ("lowers" : Str) (.ref la) (putF ("others" : Str) (.ref oa) (el0 s k)))
def elF (s : Addr) (k : Nat) (oa la ua : Addr) (m : Int) (r : Nat) (pa : Addr) : FS := putF ("pivots" : Str) (.ref pa) (putF ("rule" : Str) (.int (r : Int)) (putF ("period" : Str) (.int m) (el1 s k oa la ua)))
theorem putF_len (f : Str) (v : V) : ∀ l : FS, (putF f v l).length ≤ l.length + 1
  | [] => Nat.le_refl _
  | (g, x) :: r => by
    unfold putF
    split
    · exact Nat.le_succ _
    · exact Nat.succ_le_succ (putF_len f v r)
theorem lp_eq {f : Str} {v : V} {l : FS} : (putF f v l).lookup f = some v := by rw [lookup_putF, if_pos rfl]
theorem lp_ne {f g : Str} {v : V} {l : FS} (h : g ≠ f) : (putF f v l).lookup g = l.lookup g := by rw [lookup_putF, if_neg h]
theorem lp_of {f g : Str} {v y : V} {l : FS} (h : g ≠ f) (e : l.lookup g = some y) : (putF f v l).lookup g = some y := by rw [lp_ne h]; exact e
/-- all but an instance stand -/
structure Wx (C x dx : Addr) (H H' : Hp) : Prop where
  b : SBut x H H'
  o : ∃ fs, H x = some (.ins C dx fs)
theorem Wx.trans {C x dx : Addr} {H H1 H2 : Hp} (a : Wx C x dx H H1) (b : Wx C x dx H1 H2) : Wx C x dx H H2 := ⟨a.b.trans b.b, a.o⟩
theorem Wx.of {C x dx : Addr} {H H' : Hp} {fs : FS} (h : H x = some (.ins C dx fs)) (s : Same H H') : Wx C x dx H H' := ⟨Same.but s, _, h⟩
theorem Wx.up {C x dx : Addr} {H : Hp} {fs : FS} {o : HO} (h : H x = some (.ins C dx fs)) : Wx C x dx H (upd H x o) := ⟨SBut.upd, _, h⟩
theorem Wx.T {C x dx a : Addr} {H H' : Hp} {K : PySem.W.Frag} {xs : List V} (w : Wx C x dx H H') (h : SqT K H a xs) : SqT K H' a xs := let ⟨_, e⟩ := w.o; sqT_but w.b e noTup_ins h
theorem Wx.L {C x dx a : Addr} {H H' : Hp} {K : PySem.W.Frag} {xs : List V} (w : Wx C x dx H H') (h : SqL K H a xs) : SqL K H' a xs := by
  obtain ⟨fs, e⟩ := w.o
  rcases h with (h | ⟨ob, h⟩) | h
  · exact .inl (.inl (w.b _ _ (ne_of h e (fun z => by cases z)) h))
  · exact .inl (.inr ⟨ob, w.b _ _ (ne_of h e (fun z => by cases z)) h⟩)
  · exact .inr h
theorem Wx.E {C x dx a : Addr} {H H' : Hp} {K : PySem.W.Frag} {y : Ex} (w : Wx C x dx H H') (h : ExT K H a y) : ExT K H' a y := w.T h
theorem Wx.C {C x dx a : Addr} {H H' : Hp} {K : PySem.W.Frag} {y : Ct} (w : Wx C x dx H H') (h : CtT K H a y) : CtT K H' a y := let ⟨b, h1, h2⟩ := h; ⟨b, w.T h1, w.T h2⟩
theorem Wx.PV {C x dx a : Addr} {H H' : Hp} {K : PySem.W.Frag} {y : Ex × Int} (w : Wx C x dx H H') (h : PvT K H a y) : PvT K H' a y := let ⟨b, h1, h2⟩ := h; ⟨b, w.T h1, w.T h2⟩
theorem Wx.S {C x dx C' s ds ra : Addr} {H H' : Hp} {K : PySem.W.Frag} {n : Nat} {rs : List Rw} (w : Wx C x dx H H') (ne : s ≠ x) (h : Sy K C' H s ds ra n rs) : Sy K C' H' s ds ra n rs := ⟨w.b _ _ ne h.ob, w.T h.rt, fun r hr => w.C (h.ok r hr)⟩
theorem atC {k : Nat} {t : Ct} (h : k < t.c.length) : atI (t.e.map V.int) (k : Int) = some (V.int (co k t.ex)) := at_co (x := t.ex) h
structure El (A : Ad) (K : PySem.W.Frag) (H : Hp) (x dx s ds ra oa la ua pa : Addr) (n k : Nat) (rs os : List Rw) (ls us : List (Addr × Ex)) (ps : List (Addr × (Ex × Int))) : Prop where
  ob : H x = some (.ins A.C_Elimination dx (elF s k oa la ua (lcmL (divE k (cts rs))) (rule k (cts rs)) pa))
  sy : Sy K A.C_System H s ds ra n rs
  gd : ∀ r ∈ rs, Gn n r.2
  nr : rs.length ≤ 4200
  nd : nD (cts rs) ≤ 100
  kn : k < n
  n40 : n ≤ 44
  os : SqL K H oa (rsv os) ∧ RsAll (CtT K) H os ∧ os.map (·.2) = othE k (cts rs)
  ls : SqL K H la (rsv ls) ∧ RsAll (ExT K) H ls ∧ ls.map (·.2) = lowE k (cts rs)
  us : SqL K H ua (rsv us) ∧ RsAll (ExT K) H us ∧ us.map (·.2) = uppE k (cts rs)
  ps : SqL K H pa (rsv ps) ∧ RsAll (PvT K) H ps ∧ ps.map (·.2) = pivots k (cts rs)
def sp_Elimination___init__ (A : Ad) (K : PySem.W.Frag) : Sp := fun vs H Q _ => ∃ (x dx s ds ra : Addr) (n k : Nat) (rs : List Rw), vs = [.ref x, .ref s, .int (k : Int)] ∧ H x = some (.ins A.C_Elimination dx []) ∧ Sy K A.C_System H s ds ra n rs ∧ (∀ r ∈ rs, Gn n r.2) ∧ rs.length ≤ 4200 ∧ nD (cts rs) ≤ 100 ∧ k < n ∧ n ≤ 44 ∧
  ∀ H' oa la ua pa os ls us ps, (∀ b o, b ≠ x → H b = some o → H' b = some o) → El A K H' x dx s ds ra oa la ua pa n k rs os ls us ps → Q .non H'
def Kd.nm : Kd → Str
  | .ge => "ge"
  | .eq => "eq"
  | .div _ => "div"
def Kd.md : Kd → Int
  | .div m => m
  | _ => 0
theorem kv_nm {k : Kd} {a : Addr} : atI (k.v a) 0 = some (V.str k.nm) := by cases k <;> rfl
theorem nm_ge (k : Kd) : decide (V.str k.nm = V.str (Str.ofString "ge")) = decide (k = .ge) := by
  cases k with
  | ge => exact (decide_eq_true rfl).trans (decide_eq_true rfl).symm
  | eq => exact (decide_eq_false (show ¬ V.str (Str.ofString "eq") = V.str (Str.ofString "ge") by rw [V.str.injEq]; decide +kernel)).trans (decide_eq_false (by intro z; cases z)).symm
  | div m => exact (decide_eq_false (show ¬ V.str (Str.ofString "div") = V.str (Str.ofString "ge") by rw [V.str.injEq]; decide +kernel)).trans (decide_eq_false (by intro z; cases z)).symm
theorem nm_eq (k : Kd) : decide (V.str k.nm = V.str (Str.ofString "eq")) = decide (k = .eq) := by
  cases k with
  | eq => exact (decide_eq_true rfl).trans (decide_eq_true rfl).symm
  | ge => exact (decide_eq_false (show ¬ V.str (Str.ofString "ge") = V.str (Str.ofString "eq") by rw [V.str.injEq]; decide +kernel)).trans (decide_eq_false (by intro z; cases z)).symm
  | div m => exact (decide_eq_false (show ¬ V.str (Str.ofString "div") = V.str (Str.ofString "eq") by rw [V.str.injEq]; decide +kernel)).trans (decide_eq_false (by intro z; cases z)).symm
theorem nm_div (k : Kd) : decide (V.str k.nm = V.str (Str.ofString "div")) = k.isD := by
  cases k with
  | div m => exact decide_eq_true rfl
  | ge => exact decide_eq_false (show ¬ V.str (Str.ofString "ge") = V.str (Str.ofString "div") by rw [V.str.injEq]; decide +kernel)
  | eq => exact decide_eq_false (show ¬ V.str (Str.ofString "eq") = V.str (Str.ofString "div") by rw [V.str.injEq]; decide +kernel)
theorem divM_filter : ∀ l : List Ct, (l.map fun t => divM t.k).flatten = (l.filter fun t => t.k.isD).map fun t => t.k.md
  | [] => rfl
  | t :: r => by
    rw [List.map_cons, List.flatten_cons, divM_filter r, List.filter_cons]
    cases hk : t.k with
    | ge => rfl
    | eq => rfl
    | div m =>
      rw [if_pos (by rfl), List.map_cons, hk]
      rfl
theorem filt2 (l : List Ct) (p q r : Ct → Bool) (h : ∀ t, (p t && q t) = r t) : (l.filter q).filter p = l.filter r := by
  rw [List.filter_filter]
  exact List.filter_congr fun t _ => h t
theorem nonE {α : Type} (l : List α) : decide (0 < (l.length : Int)) = !l.isEmpty := by
  cases l with
  | nil => rfl
  | cons a r =>
    rw [List.length_cons]
    exact decide_eq_true (by omega)
theorem rule_one {he hd : Bool} {a b : List Int} (h : ruleN he hd a b = 1) : he = true := by
  unfold ruleN at h
  cases he with
  | true => rfl
  | false =>
    rw [if_neg (by decide)] at h
    split at h
    · cases h
    · split at h
      · cases h
      · split at h <;> cases h
theorem co_sz {n k : Nat} {t : Ct} (g : Gn n t) (hk : k < n) : Sz 64 (co k t.ex) := by
  refine g.cs _ ?_
  show t.c.getD k 0 ∈ t.c
  rw [List.getD_eq_getElem?_getD, List.getElem?_eq_getElem (by rw [g.len]; exact hk)]
  exact List.getElem_mem _
theorem divE_bd {n k : Nat} {rs : List Rw} (h : ∀ r ∈ rs, Gn n r.2) : ∀ m ∈ divE k (cts rs), 1 ≤ m ∧ Sz 64 m := fun m hm => by
  obtain ⟨l, hl, h'⟩ := List.mem_flatten.mp hm
  obtain ⟨t, ht, rfl⟩ := List.mem_map.mp hl
  obtain ⟨r, hr, rfl⟩ := List.mem_map.mp (List.mem_filter.mp ht).1
  have ok := (h r hr).ok
  have ms := (h r hr).ms
  cases hk : r.2.k with
  | ge => rw [hk] at h'; cases h'
  | eq => rw [hk] at h'; cases h'
  | div m' =>
    rw [hk] at h' ok ms
    rw [List.mem_singleton.mp h']
    exact ⟨ok, ms⟩
theorem divE_len (k : Nat) (ts : List Ct) : (divE k ts).length ≤ nD ts := by
  rw [divE, divM_filter, List.length_map, List.filter_filter, nD, ← List.countP_eq_length_filter, ← List.countP_eq_length_filter]
  exact List.countP_mono_left fun t _ h => by rw [Bool.and_eq_true] at h; exact h.1
theorem lcm_sz {n k : Nat} {rs : List Rw} (h : ∀ r ∈ rs, Gn n r.2) (hr : nD (cts rs) ≤ 100) : 1 ≤ lcmL (divE k (cts rs)) ∧ Sz 6500 (lcmL (divE k (cts rs))) := by
  have hl : (divE k (cts rs)).length ≤ 100 := Nat.le_trans (divE_len k (cts rs)) hr
  have hb := lcmL_bd _ (divE k (cts rs)) rfl (divE_bd h)
  exact ⟨hb.1, hb.2.mono (by omega)⟩
section
variable {w : World} {K : PySem.W.Frag} {mg : Str → Option Value} {base : Heap} {A : Ad}
theorem ok_Elimination___init__ (T : Txt K mg A) : FnOk P w K mg base CX0 2 A.f_Elimination___init__ A.d_Elimination___init__ ["self", "system", "k"] (sp_Elimination___init__ A K) := by
  have G_common_multiple := ok_common_multiple (w := w) (base := base) T
  have G_Elimination_rule_for := ok_Elimination_rule_for (w := w) (base := base) T
  have G_Elimination_pivots_for := ok_Elimination_pivots_for (w := w) (base := base) T
  refine T.F_Elimination___init__.ok sc_Elimination___init__ (fun vs H Q E h => ?_) (fun cdv A' outer s H vs Q E hr h => ?_)
  · obtain ⟨x, dx, s, ds, ra, n, k, rs, rfl, _⟩ := h
    rfl
  · obtain ⟨x, dx, s, ds, ra, n, k, rs, rfl, hO, hS, hG, hrl, hnd, hk, hn, q⟩ := h
    refine ⟨_, (pss_cons (ps_fld (pv 0) (pv 1) rfl) 
    (pss_cons (ps_fld (pv 0) (pv 2) rfl) 
    (pss_cons (ps_setLc (i := 3) (own := [("row", 4)]) (by rfl) sc_Elimination___init__.nd rfl rfl (sw_true rfl rfl rfl (by decide +kernel)) (pi_tup (pe_fld (pv 1) rfl)) (blkOk_by (own := [("row", 4)]) (N := ["self", "system", "k", "having", "row", "equations", "divisors"]) (sc := defScope s_Elimination___init__) (by decide +kernel)) (fun _ _ _ _ _ => (pg_name (i := 4) sc_Elimination___init__.nd rfl (Or.inl rfl) (Or.inr rfl))) (fun _ _ _ _ _ => pts_one (pt_cmpR op_ne (pe_ix (r := rIxT K) ix_tup (pe_ix (r := rIxT K) ix_tup (pv 4) (pe_un un_neg pe_int) (fun _ _ => rfl)) (pv 2) (fun _ _ => rfl)) pe_int (nomark _))) (fun _ _ _ _ _ => (pv 4))) 
    (pss_cons (ps_fld (pv 0) (pe_lc (own := [("row", 4)]) (by rfl) sc_Elimination___init__.nd (pi_tup (pe_fld (pv 1) rfl)) (blkOk_by (own := [("row", 4)]) (N := ["self", "system", "k", "having", "row", "equations", "divisors"]) (sc := defScope s_Elimination___init__) (by decide +kernel)) (fun _ _ _ _ _ => (pg_name (i := 4) sc_Elimination___init__.nd rfl (Or.inl rfl) (Or.inr rfl))) (fun _ _ _ _ _ => pts_one (pt_cmpR op_eq (pe_ix (r := rIxT K) ix_tup (pe_ix (r := rIxT K) ix_tup (pv 4) (pe_un un_neg pe_int) (fun _ _ => rfl)) (pv 2) (fun _ _ => rfl)) pe_int (nomark _))) (fun _ _ _ _ _ => (pv 4))) rfl) 
    (pss_cons (ps_fld (pv 0) (pe_lc (own := [("row", 4)]) (by rfl) sc_Elimination___init__.nd (pi_list (pv 3)) (blkOk_by (own := [("row", 4)]) (N := ["self", "system", "k", "having", "row", "equations", "divisors"]) (sc := defScope s_Elimination___init__) (by decide +kernel)) (fun _ _ _ _ _ => (pg_name (i := 4) sc_Elimination___init__.nd rfl (Or.inl rfl) (Or.inr rfl))) (fun _ _ _ _ _ => pts_one (PW.pt (pw_and (pt_cmpR op_eq (pe_ix (r := rIxT K) ix_tup (pv 4) pe_int (fun _ _ => rfl)) pe_str (nomark _)) (pw_and1 (pt_cmpR op_gt (pe_ix (r := rIxT K) ix_tup (pe_ix (r := rIxT K) ix_tup (pv 4) (pe_un un_neg pe_int) (fun _ _ => rfl)) (pv 2) (fun _ _ => rfl)) pe_int (nomark _)))))) (fun _ _ _ _ _ => (pe_ix (r := rIxT K) ix_tup (pv 4) (pe_un un_neg pe_int) (fun _ _ => rfl)))) rfl) 
    (pss_cons (ps_fld (pv 0) (pe_lc (own := [("row", 4)]) (by rfl) sc_Elimination___init__.nd (pi_list (pv 3)) (blkOk_by (own := [("row", 4)]) (N := ["self", "system", "k", "having", "row", "equations", "divisors"]) (sc := defScope s_Elimination___init__) (by decide +kernel)) (fun _ _ _ _ _ => (pg_name (i := 4) sc_Elimination___init__.nd rfl (Or.inl rfl) (Or.inr rfl))) (fun _ _ _ _ _ => pts_one (PW.pt (pw_and (pt_cmpR op_eq (pe_ix (r := rIxT K) ix_tup (pv 4) pe_int (fun _ _ => rfl)) pe_str (nomark _)) (pw_and1 (pt_cmpR op_lt (pe_ix (r := rIxT K) ix_tup (pe_ix (r := rIxT K) ix_tup (pv 4) (pe_un un_neg pe_int) (fun _ _ => rfl)) (pv 2) (fun _ _ => rfl)) pe_int (nomark _)))))) (fun _ _ _ _ _ => (pe_ix (r := rIxT K) ix_tup (pv 4) (pe_un un_neg pe_int) (fun _ _ => rfl)))) rfl) 
    (pss_cons (ps_setLc (i := 5) (own := [("row", 4)]) (by rfl) sc_Elimination___init__.nd rfl rfl (sw_true rfl rfl rfl (by decide +kernel)) (pi_list (pv 3)) (blkOk_by (own := [("row", 4)]) (N := ["self", "system", "k", "having", "row", "equations", "divisors"]) (sc := defScope s_Elimination___init__) (by decide +kernel)) (fun _ _ _ _ _ => (pg_name (i := 4) sc_Elimination___init__.nd rfl (Or.inl rfl) (Or.inr rfl))) (fun _ _ _ _ _ => pts_one (pt_cmpR op_eq (pe_ix (r := rIxT K) ix_tup (pv 4) pe_int (fun _ _ => rfl)) pe_str (nomark _))) (fun _ _ _ _ _ => (pe_ix (r := rIxT K) ix_tup (pv 4) (pe_un un_neg pe_int) (fun _ _ => rfl)))) 
    (pss_cons (ps_setLc (i := 6) (own := [("row", 4)]) (by rfl) sc_Elimination___init__.nd rfl rfl (sw_true rfl rfl rfl (by decide +kernel)) (pi_list (pv 3)) (blkOk_by (own := [("row", 4)]) (N := ["self", "system", "k", "having", "row", "equations", "divisors"]) (sc := defScope s_Elimination___init__) (by decide +kernel)) (fun _ _ _ _ _ => (pg_name (i := 4) sc_Elimination___init__.nd rfl (Or.inl rfl) (Or.inr rfl))) (fun _ _ _ _ _ => pts_one (pt_cmpR op_eq (pe_ix (r := rIxT K) ix_tup (pv 4) pe_int (fun _ _ => rfl)) pe_str (nomark _))) (fun _ _ _ _ _ => (pe_ix (r := rIxT K) ix_tup (pv 4) pe_int (fun _ _ => rfl)))) 
    (pss_cons (ps_fld (pv 0) (pe_call G_common_multiple hr (by rfl) T.g_common_multiple T.F_common_multiple.kp T.B_common_multiple .nil pass0 (pa_cons (pv 6) pa_nil)) rfl) 
    (pss_cons (ps_fld (pv 0) (pe_meth (pv 0) T.cl_Elimination T.me_Elimination_rule_for G_Elimination_rule_for hr T.B_Elimination_rule_for .nil pass0 (pa_cons (pe_cmpR op_gt (pe_callB call_len_seq (by rfl) T.b_len (by decide +kernel) (pa_cons (pv 5) pa_nil)) pe_int (nomark _)) (pa_cons (pe_cmpR op_gt (pe_callB call_len_seq (by rfl) T.b_len (by decide +kernel) (pa_cons (pv 6) pa_nil)) pe_int (nomark _)) pa_nil))) rfl) 
    (pss_one (ps_fld (pv 0) (pe_meth (pv 0) T.cl_Elimination T.me_Elimination_pivots_for G_Elimination_pivots_for hr T.B_Elimination_pivots_for .nil pass0 (pa_cons (pv 5) pa_nil)) rfl)))))))))))), ?_⟩
    walk_at "wp"
    have nsx : s ≠ x := fun z => by
      have e1 := hS.ob
      rw [z, hO] at e1
      injection e1 with e1
      injection e1 with _ _ e3
      cases e3
    have p1 := putF_len ("system" : Str) (.ref s) []
    change (putF ("system" : Str) (.ref s) []).length ≤ 1 at p1
    refine ⟨A.C_Elimination, dx, _, hO, T.cl_Elimination, T.na_Elimination_system, by decide, A.C_Elimination, dx, _, upd_same, T.cl_Elimination, T.na_Elimination_k, by omega, ?_⟩
    have l0 := putF_len ("k" : Str) (.int (k : Int)) (putF ("system" : Str) (.ref s) [])
    have fk : (putF ("k" : Str) (.int (k : Int)) (putF ("system" : Str) (.ref s) [])).lookup ("k" : Str) = some (V.int (k : Int)) := lp_eq
    generalize hf0 : putF ("k" : Str) (.int (k : Int)) (putF ("system" : Str) (.ref s) []) = fs0 at *
    have w0 := (Wx.up (o := .ins A.C_Elimination dx (putF ("system" : Str) (.ref s) [])) hO).trans (Wx.up (o := .ins A.C_Elimination dx fs0) upd_same)
    have o0 : upd (upd H x (.ins A.C_Elimination dx (putF ("system" : Str) (.ref s) []))) x (.ins A.C_Elimination dx fs0) x = some (.ins A.C_Elimination dx fs0) := upd_same
    generalize upd (upd H x (.ins A.C_Elimination dx (putF ("system" : Str) (.ref s) []))) x (.ins A.C_Elimination dx fs0) = H0 at *
    have S0 := w0.S nsx hS
    have hlr : (rv rs).length = rs.length := by rw [rv, List.length_map]
    have gc : ∀ r ∈ rs, k < r.2.c.length := fun r hr' => by rw [(hG r hr').len]; exact hk
    refine ⟨A.C_System, ds, _, S0.ob, T.cl_System, T.na_System_rows, _, look_rows, ra, rfl, ⟨_, S0.rt⟩, fun D1 n1 => lc_rsG (P2 := CtT K) ct_stay (walk_tup (xs := rsv rs)) (fun t => decide (co k t.ex ≠ 0)) id n1 (by omega) (fun H' s => sameT s S0.rt) (fun r H' N R hr' s1 kN kR => ?_) (fun H1 hs s1 e1 a1 r1 => ?_)⟩
    · have hC := (S0.ok r hr').same s1
      obtain ⟨ea, c1, c2⟩ := hC
      walk_at "wp"
      refine ⟨_, c1, _, kv_last, _, rfl, _, c2, _, atC (gc r hr'), rfl, ?_⟩
      rw [dec_ii]
      by_cases z : co k r.2.ex = 0
      · rw [if_neg (by rw [decide_eq_true z]; decide)]
        exact kN (decide_eq_false (fun h => h z)) _ (Same.refl _)
      · rw [if_pos (by rw [decide_eq_false z]; rfl)]
        exact kR (decide_eq_true z) _ _ (Same.refl _) ⟨ea, c1, c2⟩
    · refine ⟨A.C_System, ds, _, (S0.same s1).ob, T.cl_System, T.na_System_rows, _, look_rows, ra, rfl, ⟨_, (S0.same s1).rt⟩, fun D2 n2 => lc_rsG (P2 := CtT K) ct_stay (walk_tup (xs := rsv rs)) (fun t => decide (co k t.ex = 0)) id n2 (by omega) (fun H' s => sameT s (S0.same s1).rt) (fun r H' N R hr' s2 kN kR => ?_) (fun H2 os s2 e2 a2 r2 => ?_)⟩
      · have hC := (S0.ok r hr').same (s1.trans s2)
        obtain ⟨ea, c1, c2⟩ := hC
        walk_at "wp"
        refine ⟨_, c1, _, kv_last, _, rfl, _, c2, _, atC (gc r hr'), rfl, ?_⟩
        rw [dec_ii]
        by_cases z : co k r.2.ex = 0
        · rw [if_pos (decide_eq_true z)]
          exact kR (decide_eq_true z) _ _ (Same.refl _) ⟨ea, c1, c2⟩
        · rw [if_neg (by rw [decide_eq_false z]; decide)]
          exact kN (decide_eq_false z) _ (Same.refl _)
      · refine ⟨A.C_Elimination, dx, _, s2 _ _ (s1 _ _ o0), T.cl_Elimination, T.na_Elimination_others, by omega, ?_⟩
        rw [List.map_id] at r1 r2
        have hmem : ∀ r ∈ hs, Gn n r.2 := fun r hr' => by
          have : r.2 ∈ hs.map (·.2) := List.mem_map.mpr ⟨r, hr', rfl⟩
          rw [r1] at this
          obtain ⟨r', h1, h2⟩ := List.mem_map.mp (List.mem_filter.mp this).1
          rw [← h2]
          exact hG r' h1
        have gh : ∀ r ∈ hs, k < r.2.c.length := fun r hr' => by rw [(hmem r hr').len]; exact hk
        have lh : hs.length ≤ 4200 := by
          rw [← List.length_map (f := (·.2)), r1]
          exact Nat.le_trans (List.length_filter_le _ _) (by rw [List.length_map]; exact hrl)
        have lo : os.length ≤ 4200 := by
          rw [← List.length_map (f := (·.2)), r2]
          exact Nat.le_trans (List.length_filter_le _ _) (by rw [List.length_map]; exact hrl)
        have w3 := (Wx.of o0 (s1.trans s2)).trans (Wx.up (o := .ins A.C_Elimination dx (putF ("others" : Str) (.ref D2) fs0)) (s2 _ _ (s1 _ _ o0)))
        have w3' := Wx.up (o := .ins A.C_Elimination dx (putF ("others" : Str) (.ref D2) fs0)) (s2 _ _ (s1 _ _ o0))
        have o3 : upd H2 x (.ins A.C_Elimination dx (putF ("others" : Str) (.ref D2) fs0)) x = some (.ins A.C_Elimination dx (putF ("others" : Str) (.ref D2) fs0)) := upd_same
        have l3 := putF_len ("others" : Str) (.ref D2) fs0
        have f3 : (putF ("others" : Str) (.ref D2) fs0).lookup ("k" : Str) = some (V.int (k : Int)) := lp_of (by decide +kernel) fk
        generalize hf3 : putF ("others" : Str) (.ref D2) fs0 = fs3 at *
        generalize upd H2 x (.ins A.C_Elimination dx fs3) = H3 at *
        have L1 := w3'.L (K := K) (SqL.of (s2 _ _ e1))
        have A1 : RsAll (CtT K) H3 hs := fun r hr' => w3'.C ((a1 r hr').same s2)
        have L2 := w3'.L (K := K) (SqL.of e2)
        have A2 : RsAll (CtT K) H3 os := fun r hr' => w3'.C (a2 r hr')
        have S3 := w3.S nsx S0
        clear e1 e2 a1 a2 w3'
        refine ⟨⟨_, L1⟩, fun D4 n4 => lc_rsG (P2 := ExT K) ex_stay (walk_list (xs := rsv hs)) (fun t => decide (t.k = .ge ∧ 0 < co k t.ex)) Ct.ex n4 (by omega) (fun H' s => s.seq L1) (fun r H' N R hr' s4 kN kR => ?_) (fun H4 ls s4 e4 a4 r4 => ?_)⟩
        · obtain ⟨ea, c1, c2⟩ := (A1 r hr').same s4
          walk_at "wp"
          refine ⟨_, c1, _, kv_nm, rfl, ?_⟩
          rw [nm_ge]
          by_cases hg : r.2.k = .ge
          · rw [if_pos (decide_eq_true hg)]
            refine ⟨_, c1, _, kv_last, _, rfl, _, c2, _, atC (gh r hr'), _, rfl, ?_⟩
            by_cases hc : 0 < co k r.2.ex
            · rw [if_pos (decide_eq_true hc)]
              exact ⟨_, c1, _, kv_last, kR (decide_eq_true ⟨hg, hc⟩) _ _ (Same.refl _) c2⟩
            · rw [if_neg (by rw [decide_eq_false hc]; decide)]
              exact kN (decide_eq_false fun h => hc h.2) _ (Same.refl _)
          · rw [if_neg (by rw [decide_eq_false hg]; decide)]
            exact kN (decide_eq_false fun h => hg h.1) _ (Same.refl _)
        · refine ⟨A.C_Elimination, dx, _, s4 _ _ o3, T.cl_Elimination, T.na_Elimination_lowers, by omega, ?_⟩
          have w4' := Wx.up (o := .ins A.C_Elimination dx (putF ("lowers" : Str) (.ref D4) fs3)) (s4 _ _ o3)
          have w4 := (Wx.of o3 s4).trans w4'
          have o4 : upd H4 x (.ins A.C_Elimination dx (putF ("lowers" : Str) (.ref D4) fs3)) x = some (.ins A.C_Elimination dx (putF ("lowers" : Str) (.ref D4) fs3)) := upd_same
          have l4 := putF_len ("lowers" : Str) (.ref D4) fs3
          have f4 : (putF ("lowers" : Str) (.ref D4) fs3).lookup ("k" : Str) = some (V.int (k : Int)) := lp_of (by decide +kernel) f3
          have g4 : (putF ("lowers" : Str) (.ref D4) fs3).lookup ("lowers" : Str) = some (V.ref D4) := lp_eq
          generalize hf4 : putF ("lowers" : Str) (.ref D4) fs3 = fs4 at *
          generalize upd H4 x (.ins A.C_Elimination dx fs4) = H5 at *
          have L1 := w4.L L1
          have A1 : RsAll (CtT K) H5 hs := fun r hr' => w4.C (A1 r hr')
          have L2 := w4.L L2
          have A2 : RsAll (CtT K) H5 os := fun r hr' => w4.C (A2 r hr')
          have L4 := w4'.L (K := K) (SqL.of e4)
          have A4 : RsAll (ExT K) H5 ls := fun r hr' => w4'.E (a4 r hr')
          have S4 := w4.S nsx S3
          clear e4 a4 w4'
          refine ⟨⟨_, L1⟩, fun D5 n5 => lc_rsG (P2 := ExT K) ex_stay (walk_list (xs := rsv hs)) (fun t => decide (t.k = .ge ∧ co k t.ex < 0)) Ct.ex n5 (by omega) (fun H' s => s.seq L1) (fun r H' N R hr' s5 kN kR => ?_) (fun H6 us s5 e5 a5 r5 => ?_)⟩
          · obtain ⟨ea, c1, c2⟩ := (A1 r hr').same s5
            walk_at "wp"
            refine ⟨_, c1, _, kv_nm, rfl, ?_⟩
            rw [nm_ge]
            by_cases hg : r.2.k = .ge
            · rw [if_pos (decide_eq_true hg)]
              refine ⟨_, c1, _, kv_last, _, rfl, _, c2, _, atC (gh r hr'), _, rfl, ?_⟩
              by_cases hc : co k r.2.ex < 0
              · rw [if_pos (decide_eq_true hc)]
                exact ⟨_, c1, _, kv_last, kR (decide_eq_true ⟨hg, hc⟩) _ _ (Same.refl _) c2⟩
              · rw [if_neg (by rw [decide_eq_false hc]; decide)]
                exact kN (decide_eq_false fun h => hc h.2) _ (Same.refl _)
            · rw [if_neg (by rw [decide_eq_false hg]; decide)]
              exact kN (decide_eq_false fun h => hg h.1) _ (Same.refl _)
          · refine ⟨A.C_Elimination, dx, _, s5 _ _ o4, T.cl_Elimination, T.na_Elimination_uppers, by omega, ?_⟩
            have w5' := Wx.up (o := .ins A.C_Elimination dx (putF ("uppers" : Str) (.ref D5) fs4)) (s5 _ _ o4)
            have w5 := (Wx.of o4 s5).trans w5'
            have o5 : upd H6 x (.ins A.C_Elimination dx (putF ("uppers" : Str) (.ref D5) fs4)) x = some (.ins A.C_Elimination dx (putF ("uppers" : Str) (.ref D5) fs4)) := upd_same
            have l5 := putF_len ("uppers" : Str) (.ref D5) fs4
            have f5 : (putF ("uppers" : Str) (.ref D5) fs4).lookup ("k" : Str) = some (V.int (k : Int)) := lp_of (by decide +kernel) f4
            have g5 : (putF ("uppers" : Str) (.ref D5) fs4).lookup ("lowers" : Str) = some (V.ref D4) := lp_of (by decide +kernel) g4
            have h5 : (putF ("uppers" : Str) (.ref D5) fs4).lookup ("uppers" : Str) = some (V.ref D5) := lp_eq
            generalize hf5 : putF ("uppers" : Str) (.ref D5) fs4 = fs5 at *
            generalize upd H6 x (.ins A.C_Elimination dx fs5) = H7 at *
            have L1 := w5.L L1
            have A1 : RsAll (CtT K) H7 hs := fun r hr' => w5.C (A1 r hr')
            have L2 := w5.L L2
            have A2 : RsAll (CtT K) H7 os := fun r hr' => w5.C (A2 r hr')
            have L4 := w5.L L4
            have A4 : RsAll (ExT K) H7 ls := fun r hr' => w5.E (A4 r hr')
            have L5 := w5'.L (K := K) (SqL.of e5)
            have A5 : RsAll (ExT K) H7 us := fun r hr' => w5'.E (a5 r hr')
            have S5 := w5.S nsx S4
            clear e5 a5 w5'
            refine ⟨⟨_, L1⟩, fun D6 n6 => lc_rsG (P2 := ExT K) ex_stay (walk_list (xs := rsv hs)) (fun t => decide (t.k = .eq)) Ct.ex n6 (by omega) (fun H' s => s.seq L1) (fun r H' N R hr' s6 kN kR => ?_) (fun H8 es s6 e6 a6 r6 => ?_)⟩
            · obtain ⟨ea, c1, c2⟩ := (A1 r hr').same s6
              walk_at "wp"
              refine ⟨_, c1, _, kv_nm, rfl, ?_⟩
              rw [nm_eq]
              by_cases hg : r.2.k = .eq
              · rw [if_pos (decide_eq_true hg)]
                exact ⟨_, c1, _, kv_last, kR (decide_eq_true hg) _ _ (Same.refl _) c2⟩
              · rw [if_neg (by rw [decide_eq_false hg]; decide)]
                exact kN (decide_eq_false hg) _ (Same.refl _)
            · refine ⟨⟨_, s6.seq L1⟩, fun D7 n7 => lc_vsG (walk_list (xs := rsv hs)) (fun t => t.k.isD) (fun t => V.int t.k.md) n7 (by omega) (fun H' s => s.seq (s6.seq L1)) (fun r H' N R hr' s7 kN kR => ?_) (fun H9 s7 e7 => ?_)⟩
              · obtain ⟨ea, c1, c2⟩ := (A1 r hr').same (s6.trans s7)
                walk_at "wp"
                refine ⟨_, c1, _, kv_nm, rfl, ?_⟩
                rw [nm_div]
                cases hkd : r.2.k with
                | div m =>
                  rw [if_pos (by rfl)]
                  rw [hkd] at c1 kR
                  exact ⟨_, c1, _, rfl, kR rfl _ (Same.refl _)⟩
                | ge =>
                  rw [if_neg (by decide)]
                  exact kN (by rw [hkd]; rfl) _ (Same.refl _)
                | eq =>
                  rw [if_neg (by decide)]
                  exact kN (by rw [hkd]; rfl) _ (Same.refl _)
              · have s67 := s6.trans s7
                have ed : ((hs.map (·.2)).filter fun t => t.k.isD).map (fun t => V.int t.k.md) = (divE k (cts rs)).map V.int := by
                  rw [divE, divM_filter, r1, List.map_map]
                  rfl
                rw [ed] at e7
                have el : ls.map (·.2) = lowE k (cts rs) := by
                  rw [r4, r1, filt2 (r := fun t => decide (t.k = .ge ∧ 0 < co k t.ex))]
                  · rfl
                  · intro t
                    rw [Bool.eq_iff_iff, Bool.and_eq_true, decide_eq_true_eq, decide_eq_true_eq]
                    exact ⟨fun h => h.1, fun h => ⟨h, by omega⟩⟩
                have eu : us.map (·.2) = uppE k (cts rs) := by
                  rw [r5, r1, filt2 (r := fun t => decide (t.k = .ge ∧ co k t.ex < 0))]
                  · rfl
                  · intro t
                    rw [Bool.eq_iff_iff, Bool.and_eq_true, decide_eq_true_eq, decide_eq_true_eq]
                    exact ⟨fun h => h.1, fun h => ⟨h, by omega⟩⟩
                have ee : es.map (·.2) = eqE k (cts rs) := by
                  rw [r6, r1, filt2 (r := fun t => decide (t.k = .eq ∧ co k t.ex ≠ 0))]
                  · rfl
                  · intro t
                    rw [Bool.eq_iff_iff, Bool.and_eq_true, decide_eq_true_eq, decide_eq_true_eq, decide_eq_true_eq]
                have lm := lcm_sz (k := k) hG hnd
                have l2 := divE_len k (cts rs)
                refine ⟨D7, divE k (cts rs), rfl, SqL.of e7, divE_bd hG, by omega, ?_⟩
                have o9 := s67 _ _ o5
                have w6' := Wx.up (o := .ins A.C_Elimination dx (putF ("period" : Str) (.int (lcmL (divE k (cts rs)))) fs5)) o9
                have w6 := (Wx.of o5 s67).trans w6'
                have o6 : upd H9 x (.ins A.C_Elimination dx (putF ("period" : Str) (.int (lcmL (divE k (cts rs)))) fs5)) x = some (.ins A.C_Elimination dx (putF ("period" : Str) (.int (lcmL (divE k (cts rs)))) fs5)) := upd_same
                have l6 := putF_len ("period" : Str) (.int (lcmL (divE k (cts rs)))) fs5
                have f6 : (putF ("period" : Str) (.int (lcmL (divE k (cts rs)))) fs5).lookup ("k" : Str) = some (V.int (k : Int)) := lp_of (by decide +kernel) f5
                have g6 : (putF ("period" : Str) (.int (lcmL (divE k (cts rs)))) fs5).lookup ("lowers" : Str) = some (V.ref D4) := lp_of (by decide +kernel) g5
                have h6 : (putF ("period" : Str) (.int (lcmL (divE k (cts rs)))) fs5).lookup ("uppers" : Str) = some (V.ref D5) := lp_of (by decide +kernel) h5
                have i6 : (putF ("period" : Str) (.int (lcmL (divE k (cts rs)))) fs5).lookup ("period" : Str) = some (V.int (lcmL (divE k (cts rs)))) := lp_eq
                have nf : (putF ("period" : Str) (.int (lcmL (divE k (cts rs)))) fs5).lookup ("rule_for" : Str) = none := by
                  rw [lp_ne (by decide +kernel), ← hf5, lp_ne (by decide +kernel), ← hf4, lp_ne (by decide +kernel), ← hf3, lp_ne (by decide +kernel), ← hf0, lp_ne (by decide +kernel), lp_ne (by decide +kernel)]
                  rfl
                have np : (putF ("period" : Str) (.int (lcmL (divE k (cts rs)))) fs5).lookup ("pivots_for" : Str) = none := by
                  rw [lp_ne (by decide +kernel), ← hf5, lp_ne (by decide +kernel), ← hf4, lp_ne (by decide +kernel), ← hf3, lp_ne (by decide +kernel), ← hf0, lp_ne (by decide +kernel), lp_ne (by decide +kernel)]
                  rfl
                refine ⟨A.C_Elimination, dx, _, o9, T.cl_Elimination, T.na_Elimination_period, by omega, dx, _, o6, nf, ?_⟩
                generalize hf6 : putF ("period" : Str) (.int (lcmL (divE k (cts rs)))) fs5 = fs6 at *
                generalize upd H9 x (.ins A.C_Elimination dx fs6) = H10 at *
                have L2 := w6.L L2
                have A2 : RsAll (CtT K) H10 os := fun r hr' => w6.C (A2 r hr')
                have L4 := w6.L L4
                have A4 : RsAll (ExT K) H10 ls := fun r hr' => w6.E (A4 r hr')
                have L5 := w6.L L5
                have A5 : RsAll (ExT K) H10 us := fun r hr' => w6.E (A5 r hr')
                have L6 := w6'.L (K := K) (s7.seq (SqL.of e6))
                have A6 : RsAll (ExT K) H10 es := fun r hr' => w6'.E (ex_stay.same (a6 r hr') s7)
                have L7 := w6'.L (K := K) (SqL.of e7)
                have S6 := w6.S nsx S5
                clear w6'
                have cls : ∀ r ∈ ls, k < r.2.1.length ∧ 0 < co k r.2 ∧ Sz 64 (co k r.2) := fun r hr' => by
                  obtain ⟨t, t1, t2, t3, t4⟩ := low_mem.mp (show r.2 ∈ lowE k (cts rs) by rw [← el]; exact List.mem_map.mpr ⟨r, hr', rfl⟩)
                  obtain ⟨r', t5, rfl⟩ := List.mem_map.mp t1
                  rw [t4]
                  exact ⟨gc r' t5, t3, co_sz (hG r' t5) hk⟩
                have cus : ∀ r ∈ us, k < r.2.1.length ∧ co k r.2 < 0 ∧ Sz 64 (co k r.2) := fun r hr' => by
                  obtain ⟨t, t1, t2, t3, t4⟩ := upp_mem.mp (show r.2 ∈ uppE k (cts rs) by rw [← eu]; exact List.mem_map.mpr ⟨r, hr', rfl⟩)
                  obtain ⟨r', t5, rfl⟩ := List.mem_map.mp t1
                  rw [t4]
                  exact ⟨gc r' t5, t3, co_sz (hG r' t5) hk⟩
                have nls : ls.length ≤ 4200 := by
                  rw [← List.length_map (f := (·.2)), r4, List.length_map]
                  exact Nat.le_trans (List.length_filter_le _ _) (by rw [List.length_map]; exact lh)
                have nus : us.length ≤ 4200 := by
                  rw [← List.length_map (f := (·.2)), r5, List.length_map]
                  exact Nat.le_trans (List.length_filter_le _ _) (by rw [List.length_map]; exact lh)
                refine ⟨_, .inl L6, _, .inl L7, x, dx, D4, D5, fs6, k, ls, us, _, _, rfl, o6, f6, g6, h6, L4, L5, A4, A5, fun r hr' => ⟨(cls r hr').1, (cls r hr').2.1⟩, fun r hr' => ⟨(cus r hr').1, (cus r hr').2.1⟩, by omega, by omega, fun H11 s11 => ?_⟩
                have er : ruleN (decide (0 < ((rsv es).length : Int))) (decide (0 < (((divE k (cts rs)).map V.int).length : Int))) (ls.map fun r => co k r.2) (us.map fun r => - co k r.2) = rule k (cts rs) := by
                  rw [rule, ← el, ← eu, ← ee, nonE, nonE, List.map_map, List.map_map]
                  congr 1
                  · rw [rsv]; simp
                  · simp
                rw [er]
                refine ⟨A.C_Elimination, dx, _, s11 _ _ o6, T.cl_Elimination, T.na_Elimination_rule, by omega, ?_⟩
                have w7' := Wx.up (o := .ins A.C_Elimination dx (putF ("rule" : Str) (.int (rule k (cts rs) : Int)) fs6)) (s11 _ _ o6)
                have w7 := (Wx.of o6 s11).trans w7'
                have o7 : upd H11 x (.ins A.C_Elimination dx (putF ("rule" : Str) (.int (rule k (cts rs) : Int)) fs6)) x = some (.ins A.C_Elimination dx (putF ("rule" : Str) (.int (rule k (cts rs) : Int)) fs6)) := upd_same
                have l7 := putF_len ("rule" : Str) (.int (rule k (cts rs) : Int)) fs6
                have f7 : (putF ("rule" : Str) (.int (rule k (cts rs) : Int)) fs6).lookup ("k" : Str) = some (V.int (k : Int)) := lp_of (by decide +kernel) f6
                have g7 : (putF ("rule" : Str) (.int (rule k (cts rs) : Int)) fs6).lookup ("lowers" : Str) = some (V.ref D4) := lp_of (by decide +kernel) g6
                have h7 : (putF ("rule" : Str) (.int (rule k (cts rs) : Int)) fs6).lookup ("uppers" : Str) = some (V.ref D5) := lp_of (by decide +kernel) h6
                have i7 : (putF ("rule" : Str) (.int (rule k (cts rs) : Int)) fs6).lookup ("period" : Str) = some (V.int (lcmL (divE k (cts rs)))) := lp_of (by decide +kernel) i6
                have j7 : (putF ("rule" : Str) (.int (rule k (cts rs) : Int)) fs6).lookup ("rule" : Str) = some (V.int (rule k (cts rs) : Int)) := lp_eq
                refine ⟨dx, _, o7, by rw [lp_ne (by decide +kernel)]; exact np, ?_⟩
                generalize hf7 : putF ("rule" : Str) (.int (rule k (cts rs) : Int)) fs6 = fs7 at *
                generalize upd H11 x (.ins A.C_Elimination dx fs7) = H12 at *
                have L2 := w7.L L2
                have A2 : RsAll (CtT K) H12 os := fun r hr' => w7.C (A2 r hr')
                have L4 := w7.L L4
                have A4 : RsAll (ExT K) H12 ls := fun r hr' => w7.E (A4 r hr')
                have L5 := w7.L L5
                have A5 : RsAll (ExT K) H12 us := fun r hr' => w7.E (A5 r hr')
                have L6 := w7.L L6
                have A6 : RsAll (ExT K) H12 es := fun r hr' => w7.E (A6 r hr')
                have S7 := w7.S nsx S6
                refine ⟨x, dx, D4, D5, D6, fs7, k, rule k (cts rs), es, ls, us, lcmL (divE k (cts rs)), rfl, o7, f7, g7, h7, i7, j7, L6, L4, L5, A6, A4, A5, fun r hr' => ⟨(cls r hr').1, (cls r hr').2.2.mono (by decide)⟩, fun r hr' => ⟨(cus r hr').1, (cus r hr').2.2.mono (by decide)⟩, lm.2, fun r1' => ?_, by omega, by omega, fun H13 D8 ps s13 L8 A8 r8 => ?_⟩
                · have := rule_one r1'
                  intro z
                  rw [← ee, z] at this
                  cases this
                · rw [ee, el, eu] at r8
                  refine ⟨A.C_Elimination, dx, _, s13 _ _ o7, T.cl_Elimination, T.na_Elimination_pivots, by omega, ?_⟩
                  have w8' := Wx.up (o := .ins A.C_Elimination dx (putF ("pivots" : Str) (.ref D8) fs7)) (s13 _ _ o7)
                  have w8 := (Wx.of o7 s13).trans w8'
                  have wAll := (((((w0.trans w3).trans w4).trans w5).trans w6).trans w7).trans w8
                  refine q _ D2 D4 D5 D8 os ls us ps wAll.b ⟨?_, w8.S nsx S7, hG, hrl, hnd, hk, hn, ⟨w8.L L2, fun r hr' => w8.C (A2 r hr'), r2⟩, ⟨w8.L L4, fun r hr' => w8.E (A4 r hr'), el⟩, ⟨w8.L L5, fun r hr' => w8.E (A5 r hr'), eu⟩, ⟨w8'.L L8, fun r hr' => w8'.PV (A8 r hr'), r8⟩⟩
                  rw [upd_same, ← hf7, ← hf6, ← hf5, ← hf4, ← hf3, ← hf0]
                  rfl
end
local macro_rules | `(tactic| walk_at "wp") => `(tactic| simp only [tSeq, tCKw, tAsg, tPar, gName, gTup, gCons, gNil, tVar, tC, tOp, tUn, rI, rI0, rU, tCB, tCons, tNil, tIfS, tRet, tRetN, tNext, tNever, test_eq, tB, tTup, tLst, tCall, tCallS, tCallLS, tMakeS, tAddS, tChain, rNotInO, rInO, iEnumT, iEnum, rIsnotB, rIsB, iZipM, tMkO, tIf, tAndV, tOrV, tNotV, tNot, tAnd, tOr, rEq, rNe, scal_ii, scal_ss, scal_bb, dec_ii, dec_ss, dec_bb, for_eq, lc_eq, lc2_eq, while_eq, tDrop, tYes, iList, iTup, iOr, tDNewN, tNSet, rNSet, sFld, tFld, tMake, tProp, tMeth, cxP, cxW, iStr, iRng1, iRng2, RZ.iZipA, L2.start, rIxL, rIxT, rIxS, rSlS, cxK, tSl, tPart, tNoPart, tBM, tBM0, rAppend, rExtend, rRepS, rGcd, s_ge_eq, s_ge_div, s_eq_ge, s_eq_div, s_div_ge, s_div_eq, gSub, rSetL, tAug, ipI, rAdd, rSub, tM1, tM0,
  List.map_cons, List.map_nil, List.length_cons, List.length_nil, List.cons_append, List.nil_append, List.append_nil, List.getElem?_cons_succ, List.getElem?_cons_zero, List.set_cons_succ, List.set_cons_zero, Nat.reduceAdd, Nat.reduceSub, List.replicate_succ, List.replicate_zero, wipe,
  Option.some.injEq, V.int.injEq, V.str.injEq, sgn_eq, V.ref.injEq, V.bl.injEq, exists_eq_left, exists_eq_left', exists_and_left, exists_eq_right, List.cons.injEq, and_true, true_and, ex_bl, ex_int, exists_const, Nat.zero_add, Int.toNat_natCast, Int.zero_add, and_assoc, reduceCtorEq, false_and, and_false, exists_false, or_false, false_or, eq_self, decide_true, decide_false, ite_true, ite_false, if_true, if_false, Bool.false_eq_true, Bool.not_true, Bool.not_false, ↓reduceIte])
theorem El.same {A : Ad} {K : PySem.W.Frag} {H H' : Hp} {x dx s ds ra oa la ua pa : Addr} {n k : Nat} {rs os : List Rw} {ls us : List (Addr × Ex)} {ps : List (Addr × (Ex × Int))} (h : El A K H x dx s ds ra oa la ua pa n k rs os ls us ps) (st : Same H H') : El A K H' x dx s ds ra oa la ua pa n k rs os ls us ps :=
  ⟨st _ _ h.ob, h.sy.same st, h.gd, h.nr, h.nd, h.kn, h.n40, ⟨st.seq h.os.1, h.os.2.1.same ct_stay st, h.os.2.2⟩, ⟨st.seq h.ls.1, h.ls.2.1.same ex_stay st, h.ls.2.2⟩, ⟨st.seq h.us.1, h.us.2.1.same ex_stay st, h.us.2.2⟩, ⟨st.seq h.ps.1, h.ps.2.1.same pv_stay st, h.ps.2.2⟩⟩
section
variable {s : Addr} {k : Nat} {oa la ua : Addr} {m : Int} {r : Nat} {pa : Addr}
theorem lf_system : (elF s k oa la ua m r pa).lookup ("system" : Str) = some (V.ref s) := lp_of (by decide +kernel) (lp_of (by decide +kernel) (lp_of (by decide +kernel) (lp_of (by decide +kernel) (lp_of (by decide +kernel) (lp_of (by decide +kernel) (lp_of (by decide +kernel) lp_eq))))))
theorem lf_k : (elF s k oa la ua m r pa).lookup ("k" : Str) = some (V.int (k : Int)) := lp_of (by decide +kernel) (lp_of (by decide +kernel) (lp_of (by decide +kernel) (lp_of (by decide +kernel) (lp_of (by decide +kernel) (lp_of (by decide +kernel) lp_eq)))))
theorem lf_others : (elF s k oa la ua m r pa).lookup ("others" : Str) = some (V.ref oa) := lp_of (by decide +kernel) (lp_of (by decide +kernel) (lp_of (by decide +kernel) (lp_of (by decide +kernel) (lp_of (by decide +kernel) lp_eq))))
theorem lf_lowers : (elF s k oa la ua m r pa).lookup ("lowers" : Str) = some (V.ref la) := lp_of (by decide +kernel) (lp_of (by decide +kernel) (lp_of (by decide +kernel) (lp_of (by decide +kernel) lp_eq)))
theorem lf_uppers : (elF s k oa la ua m r pa).lookup ("uppers" : Str) = some (V.ref ua) := lp_of (by decide +kernel) (lp_of (by decide +kernel) (lp_of (by decide +kernel) lp_eq))
theorem lf_period : (elF s k oa la ua m r pa).lookup ("period" : Str) = some (V.int m) := lp_of (by decide +kernel) (lp_of (by decide +kernel) lp_eq)
theorem lf_rule : (elF s k oa la ua m r pa).lookup ("rule" : Str) = some (V.int (r : Int)) := lp_of (by decide +kernel) lp_eq
theorem lf_pivots : (elF s k oa la ua m r pa).lookup ("pivots" : Str) = some (V.ref pa) := lp_eq
theorem lf_none {f : Str} (h : f ∉ ([("system" : Str), "k", "others", "lowers", "uppers", "period", "rule", "pivots"] : List Str)) : (elF s k oa la ua m r pa).lookup f = none := by
  simp only [List.mem_cons, List.not_mem_nil, or_false, not_or] at h
  obtain ⟨h1, h2, h3, h4, h5, h6, h7, h8⟩ := h
  unfold elF el1 el0
  rw [lp_ne h8, lp_ne h7, lp_ne h6, lp_ne h5, lp_ne h4, lp_ne h3, lp_ne h2, lp_ne h1]
  rfl
end
def sp_Elimination_count_cases (A : Ad) (K : PySem.W.Frag) : Sp := fun vs H Q _ => ∃ (a dx s ds ra oa la ua pa : Addr) (n k : Nat) (rs os : List Rw) (ls us : List (Addr × Ex)) (ps : List (Addr × (Ex × Int))), vs = [.ref a] ∧ El A K H a dx s ds ra oa la ua pa n k rs os ls us ps ∧ ∀ H', Same H H' → Q (.int (countC k (cts rs))) H'
def sp_Elimination_joined_rows (A : Ad) (K : PySem.W.Frag) : Sp := fun vs H Q _ => ∃ (a dx s ds ra oa la ua pa : Addr) (n k : Nat) (rs os : List Rw) (ls us : List (Addr × Ex)) (ps : List (Addr × (Ex × Int))), vs = [.ref a] ∧ El A K H a dx s ds ra oa la ua pa n k rs os ls us ps ∧ os.length + us.length * ls.length ≤ 5000 ∧
  ∀ H' D zs, Same H H' → SqL K H' D (rv zs) → RwOk K H' zs → cts zs = joined k (cts rs) → Q (.ref D) H'
def sp_Elimination_put_in (A : Ad) (K : PySem.W.Frag) : Sp := fun vs H Q _ => ∃ (a dx s ds ra oa la ua pa : Addr) (n k : Nat) (rs os : List Rw) (ls us : List (Addr × Ex)) (ps : List (Addr × (Ex × Int))) (e : Addr) (y : Ex) (v : Int), vs = [.ref a, .ref e, .int v] ∧ El A K H a dx s ds ra oa la ua pa n k rs os ls us ps ∧ ExT K H e y ∧ y.1.length = n ∧ Sz 60 v ∧ Sz 64 (co k y) ∧
  ∀ H' t, Same H H' → ExT K H' t (wo k y.1, y.2 + v * co k y) → Q (.ref t) H'
def sp_Elimination_equation_at (A : Ad) (K : PySem.W.Frag) : Sp := fun vs H Q _ => ∃ (a dx s ds ra oa la ua pa : Addr) (n k : Nat) (rs os : List Rw) (ls us : List (Addr × Ex)) (ps : List (Addr × (Ex × Int))) (i : Int), vs = [.ref a, .int i] ∧ El A K H a dx s ds ra oa la ua pa n k rs os ls us ps ∧ 0 ≤ i ∧ i < ((pivots k (cts rs)).map (·.2)).sum ∧
  ∀ H' t, Same H H' → ExT K H' t (eqAt (pivots k (cts rs)) i) → Q (.ref t) H'
def sp_Elimination_solved_rows (A : Ad) (K : PySem.W.Frag) : Sp := fun vs H Q _ => ∃ (a dx s ds ra oa la ua pa : Addr) (n k : Nat) (rs os : List Rw) (ls us : List (Addr × Ex)) (ps : List (Addr × (Ex × Int))) (e : Addr) (y : Ex), vs = [.ref a, .ref e] ∧ El A K H a dx s ds ra oa la ua pa n k rs os ls us ps ∧ ExT K H e y ∧ y.1.length = n ∧ co k y ≠ 0 ∧ Sz 64 (co k y) ∧ (∀ x ∈ y.e, Sz 100 x) ∧
  ∀ H' D zs, Same H H' → SqL K H' D (rv zs) → RwOk K H' zs → cts zs = solved k y (cts rs) → Q (.ref D) H'
def sp_Elimination_case_at (A : Ad) (K : PySem.W.Frag) : Sp := fun vs H Q _ => ∃ (a dx s ds ra oa la ua pa : Addr) (n k : Nat) (rs os : List Rw) (ls us : List (Addr × Ex)) (ps : List (Addr × (Ex × Int))) (i : Int), vs = [.ref a, .int i] ∧ El A K H a dx s ds ra oa la ua pa n k rs os ls us ps ∧ 0 ≤ i ∧ i < countC k (cts rs) ∧ i ≤ 1000 ∧ (rule k (cts rs) = 2 → os.length + us.length * ls.length ≤ 5000) ∧
  ∀ H' b dy rb ss, Same H H' → Sy K A.C_System H' b dy rb (n - 1) ss → cts ss = rrows (n - 1) [] (caseRows k (cts rs) i) → Q (.ref b) H'
theorem pivots_len (k : Nat) (ts : List Ct) : (pivots k ts).length ≤ ts.length := by
  have h1 : (lowE k ts).length ≤ ts.length := by rw [lowE, List.length_map]; exact List.length_filter_le _ _
  have h2 : (uppE k ts).length ≤ ts.length := by rw [uppE, List.length_map]; exact List.length_filter_le _ _
  have h3 : (eqE k ts).length ≤ ts.length := by rw [eqE, List.length_map]; exact List.length_filter_le _ _
  unfold pivots
  split
  · rw [List.length_map, List.length_take]
    omega
  · split
    · exact Nat.zero_le _
    · rw [List.length_map]
      split
      · exact h1
      · exact h2
theorem El.lp {A : Ad} {K : PySem.W.Frag} {H : Hp} {x dx s ds ra oa la ua pa : Addr} {n k : Nat} {rs os : List Rw} {ls us : List (Addr × Ex)} {ps : List (Addr × (Ex × Int))} (h : El A K H x dx s ds ra oa la ua pa n k rs os ls us ps) : ps.length ≤ 4200 := by
  rw [← List.length_map (f := (·.2)), h.ps.2.2]
  exact Nat.le_trans (pivots_len _ _) (by rw [cts, List.length_map]; exact h.nr)
theorem ex_sz {n : Nat} {t : Ct} (g : Gn n t) : ∀ x ∈ t.ex.e, Sz 64 x := fun x hx => by
  rcases List.mem_append.mp hx with h | h
  · exact (g.cs x h).mono (by decide)
  · rw [List.mem_singleton.mp h]
    exact g.ds
theorem El.lo {A : Ad} {K : PySem.W.Frag} {H : Hp} {x dx s ds ra oa la ua pa : Addr} {n k : Nat} {rs os : List Rw} {ls us : List (Addr × Ex)} {ps : List (Addr × (Ex × Int))} (h : El A K H x dx s ds ra oa la ua pa n k rs os ls us ps) : ∀ r ∈ ls, r.2.1.length = n ∧ 0 < co k r.2 ∧ Sz 64 (co k r.2) ∧ ∀ x ∈ r.2.e, Sz 64 x := fun r hr => by
  obtain ⟨t, t1, t2, t3, t4⟩ := low_mem.mp (show r.2 ∈ lowE k (cts rs) by rw [← h.ls.2.2]; exact List.mem_map.mpr ⟨r, hr, rfl⟩)
  obtain ⟨r', t5, rfl⟩ := List.mem_map.mp t1
  rw [t4]
  exact ⟨(h.gd r' t5).len, t3, co_sz (h.gd r' t5) h.kn, ex_sz (h.gd r' t5)⟩
theorem El.up {A : Ad} {K : PySem.W.Frag} {H : Hp} {x dx s ds ra oa la ua pa : Addr} {n k : Nat} {rs os : List Rw} {ls us : List (Addr × Ex)} {ps : List (Addr × (Ex × Int))} (h : El A K H x dx s ds ra oa la ua pa n k rs os ls us ps) : ∀ r ∈ us, r.2.1.length = n ∧ co k r.2 < 0 ∧ Sz 64 (co k r.2) ∧ ∀ x ∈ r.2.e, Sz 64 x := fun r hr => by
  obtain ⟨t, t1, t2, t3, t4⟩ := upp_mem.mp (show r.2 ∈ uppE k (cts rs) by rw [← h.us.2.2]; exact List.mem_map.mpr ⟨r, hr, rfl⟩)
  obtain ⟨r', t5, rfl⟩ := List.mem_map.mp t1
  rw [t4]
  exact ⟨(h.gd r' t5).len, t3, co_sz (h.gd r' t5) h.kn, ex_sz (h.gd r' t5)⟩
theorem pivots_mem {k : Nat} {ts : List Ct} {q : Ex × Int} (h : q ∈ pivots k ts) : (q.1 ∈ eqE k ts ∧ q.2 = 1) ∨ ((q.1 ∈ lowE k ts ∨ q.1 ∈ uppE k ts) ∧ q.2 = ((co k q.1).natAbs : Int) * lcmL (divE k ts)) := by
  unfold pivots at h
  split at h
  · obtain ⟨e, he, rfl⟩ := List.mem_map.mp h
    exact .inl ⟨List.mem_of_mem_take he, rfl⟩
  · split at h
    · cases h
    · obtain ⟨e, he, rfl⟩ := List.mem_map.mp h
      split at he
      · exact .inr ⟨.inl he, rfl⟩
      · exact .inr ⟨.inr he, rfl⟩
theorem piv_ok {n k : Nat} {rs : List Rw} (hG : ∀ r ∈ rs, Gn n r.2) (hd : nD (cts rs) ≤ 100) (hk : k < n) {q : Ex × Int} (h : q ∈ pivots k (cts rs)) : q.1.1.length = n ∧ co k q.1 ≠ 0 ∧ Sz 64 (co k q.1) ∧ (∀ x ∈ q.1.e, Sz 64 x) ∧ 0 ≤ q.2 ∧ Sz 6600 q.2 := by
  have lm := lcm_sz (k := k) hG hd
  have key : ∀ t ∈ cts rs, t.ex = q.1 → co k t.ex ≠ 0 → (q.2 = 1 ∨ q.2 = ((co k q.1).natAbs : Int) * lcmL (divE k (cts rs))) → q.1.1.length = n ∧ co k q.1 ≠ 0 ∧ Sz 64 (co k q.1) ∧ (∀ x ∈ q.1.e, Sz 64 x) ∧ 0 ≤ q.2 ∧ Sz 6600 q.2 := fun t ht e hc hm => by
    obtain ⟨r, hr, rfl⟩ := List.mem_map.mp ht
    have g := hG r hr
    have c4 := co_sz g hk
    rw [e] at hc c4
    refine ⟨by rw [← e]; exact g.len, hc, c4, by rw [← e]; exact ex_sz g, ?_⟩
    rcases hm with h | h
    · rw [h]
      exact ⟨by decide, Sz.mono (a := 1) (show Int.natAbs (1 : Int) < 2 ^ 1 by decide) (by decide)⟩
    · rw [h]
      exact ⟨Int.mul_nonneg (by omega) (by omega), (Sz.mul (Sz.abs c4) lm.2).mono (by decide)⟩
  rcases pivots_mem h with ⟨h1, h2⟩ | ⟨h1 | h1, h2⟩
  · obtain ⟨t, t1, t2, t3, t4⟩ := eq_mem.mp h1
    exact key t t1 t4.symm t3 (.inl h2)
  · obtain ⟨t, t1, t2, t3, t4⟩ := low_mem.mp h1
    exact key t t1 t4.symm (by omega) (.inr h2)
  · obtain ⟨t, t1, t2, t3, t4⟩ := upp_mem.mp h1
    exact key t t1 t4.symm (by omega) (.inr h2)
theorem El.pi {A : Ad} {K : PySem.W.Frag} {H : Hp} {x dx s ds ra oa la ua pa : Addr} {n k : Nat} {rs os : List Rw} {ls us : List (Addr × Ex)} {ps : List (Addr × (Ex × Int))} (h : El A K H x dx s ds ra oa la ua pa n k rs os ls us ps) {r : Addr × (Ex × Int)} (hr : r ∈ ps) : r.2.1.1.length = n ∧ co k r.2.1 ≠ 0 ∧ Sz 64 (co k r.2.1) ∧ (∀ x ∈ r.2.1.e, Sz 64 x) ∧ 0 ≤ r.2.2 ∧ Sz 6600 r.2.2 :=
  piv_ok h.gd h.nd h.kn (by rw [← h.ps.2.2]; exact List.mem_map.mpr ⟨r, hr, rfl⟩)
theorem El.oo {A : Ad} {K : PySem.W.Frag} {H : Hp} {x dx s ds ra oa la ua pa : Addr} {n k : Nat} {rs os : List Rw} {ls us : List (Addr × Ex)} {ps : List (Addr × (Ex × Int))} (h : El A K H x dx s ds ra oa la ua pa n k rs os ls us ps) : ∀ r ∈ os, r.2.c.length = n := fun r hr => by
  have : r.2 ∈ othE k (cts rs) := by rw [← h.os.2.2]; exact List.mem_map.mpr ⟨r, hr, rfl⟩
  obtain ⟨r', h1, h2⟩ := List.mem_map.mp (List.mem_filter.mp this).1
  rw [← h2]
  exact (h.gd r' h1).len
theorem El.ln {A : Ad} {K : PySem.W.Frag} {H : Hp} {x dx s ds ra oa la ua pa : Addr} {n k : Nat} {rs os : List Rw} {ls us : List (Addr × Ex)} {ps : List (Addr × (Ex × Int))} (h : El A K H x dx s ds ra oa la ua pa n k rs os ls us ps) : os.length ≤ 4200 ∧ ls.length ≤ 4200 ∧ us.length ≤ 4200 := by
  have hr := h.nr
  refine ⟨?_, ?_, ?_⟩
  · rw [← List.length_map (f := (·.2)), h.os.2.2]
    exact Nat.le_trans (List.length_filter_le _ _) (by rw [cts, List.length_map]; exact hr)
  · rw [← List.length_map (f := (·.2)), h.ls.2.2, lowE, List.length_map]
    exact Nat.le_trans (List.length_filter_le _ _) (by rw [cts, List.length_map]; exact hr)
  · rw [← List.length_map (f := (·.2)), h.us.2.2, uppE, List.length_map]
    exact Nat.le_trans (List.length_filter_le _ _) (by rw [cts, List.length_map]; exact hr)
theorem join_e {n k : Nat} {l u : Ex} (hl : l.1.length = n) (hu : u.1.length = n) : addL (u.e.map (co k l * ·)) (l.e.map (- co k u * ·)) = Ex.e (List.zipWith (· + ·) (u.1.map (co k l * ·)) (l.1.map (- co k u * ·)), co k l * u.2 + - co k u * l.2) := by
  unfold addL Ex.e
  rw [List.map_append, List.map_append, List.zipWith_append (by rw [List.length_map, List.length_map, hl, hu])]
  rfl
theorem diff_e {a f : Int} {x y : Ex} (h : x.1.length = y.1.length) : List.zipWith (· - ·) (x.e.map (a * ·)) (y.e.map (f * ·)) = Ex.e (List.zipWith (· - ·) (x.1.map (a * ·)) (y.1.map (f * ·)), a * x.2 - f * y.2) := by
  unfold Ex.e
  rw [List.map_append, List.map_append, List.zipWith_append (by rw [List.length_map, List.length_map, h])]
  rfl
theorem wo_mem {k : Nat} {l : List Int} {x : Int} (h : x ∈ wo k l) : x ∈ l := List.mem_of_mem_eraseIdx h
theorem sz_e {b k : Nat} {y : Ex} (h : ∀ x ∈ y.e, Sz b x) : ∀ x ∈ Ex.e (wo k y.1, y.2), Sz b x := fun x hx => by
  rcases List.mem_append.mp hx with hx | hx
  · exact h x (List.mem_append_left _ (wo_mem hx))
  · exact h x (List.mem_append_right _ hx)
theorem rw_app {K : PySem.W.Frag} {H H' : Hp} {D p : Addr} {zs : List Rw} {t : Ct} (s : Same H H') (e : H' D = some (.lst (rv zs))) (h : RwOk K H zs) (hp : CtT K H' p t) : RwOk K (upd H' D (.lst (rv zs ++ [V.ref p]))) (zs ++ [(p, t)]) := fun r hr => by
  rcases List.mem_append.mp hr with hr | hr
  · exact ct_stay.lst e ((h r hr).same s)
  · rw [List.mem_singleton.mp hr]
    exact ct_stay.lst e hp
theorem rv_app {zs : List Rw} {p : Addr} {t : Ct} : rv (zs ++ [(p, t)]) = rv zs ++ [V.ref p] := by rw [rv, List.map_append]; rfl
theorem cts_app {zs : List Rw} {p : Addr} {t : Ct} : cts (zs ++ [(p, t)]) = cts zs ++ [t] := by rw [cts, List.map_append]; rfl
section
variable {w : World} {K : PySem.W.Frag} {mg : Str → Option Value} {base : Heap} {A : Ad}
theorem ok_Elimination_count_cases (T : Txt K mg A) : FnOk P w K mg base CX0 1 A.f_Elimination_count_cases A.d_Elimination_count_cases ["self"] (sp_Elimination_count_cases A K) := by
  refine T.F_Elimination_count_cases.ok sc_Elimination_count_cases (fun vs H Q E h => ?_) (fun cdv A' outer s H vs Q E hr h => ?_)
  · obtain ⟨a, dx, s, ds, ra, oa, la, ua, pa, n, k, rs, os, ls, us, ps, rfl, _⟩ := h
    rfl
  · obtain ⟨a, dx, s, ds, ra, oa, la, ua, pa, n, k, rs, os, ls, us, ps, rfl, hE0, q⟩ := h
    refine ⟨_, (pss_cons (ps_if (pt_cmpR op_eq (pe_fld (pv 0) rfl) pe_int (nomark _)) 
      (pss_one (ps_ret pe_int)) pss_nil) 
    (pss_cons (ps_if (pt_cmpR op_eq (pe_fld (pv 0) rfl) pe_int (nomark _)) 
      (pss_one (ps_ret (pe_fld (pv 0) rfl))) pss_nil) 
    (pss_one (ps_ret (pe_callB (cr_sum rfl) (by rfl) T.b_sum (by decide +kernel) (pa_cons (pe_lc (own := [("_", 1), ("many", 2)]) (g := (gTup K 2 (gCons (gName 1) (gCons (gName 2) gNil)))) (by rfl) sc_Elimination_count_cases.nd (pi_list (pe_fld (pv 0) rfl)) (blkOk_by (own := [("_", 1), ("many", 2)]) (N := ["self", "_", "many"]) (sc := defScope s_Elimination_count_cases) (by decide +kernel)) (fun _ _ _ _ _ => (pg_tup rfl (pgs_cons (pg_name (i := 1) sc_Elimination_count_cases.nd rfl (Or.inl rfl) (Or.inr rfl)) (pgs_cons (pg_name (i := 2) sc_Elimination_count_cases.nd rfl (Or.inl rfl) (Or.inr rfl)) pgs_nil)))) (fun _ _ _ _ _ => pts_nil) (fun _ _ _ _ _ => (pv 2))) pa_nil)))))), ?_⟩
    walk_at "wp"
    have ob := hE0.ob
    refine ⟨A.C_Elimination, dx, _, ob, T.cl_Elimination, T.na_Elimination_rule, _, lf_rule, rfl, ?_⟩
    rw [dec_ii]
    by_cases r2 : rule k (cts rs) = 2
    · rw [if_pos (decide_eq_true (by omega))]
      have := q _ (Same.refl _)
      rw [countC, if_pos r2] at this
      exact this
    · rw [if_neg (by rw [decide_eq_true_eq]; omega)]
      refine ⟨A.C_Elimination, dx, _, ob, T.cl_Elimination, T.na_Elimination_rule, _, lf_rule, rfl, ?_⟩
      rw [dec_ii]
      by_cases r3 : rule k (cts rs) = 3
      · rw [if_pos (decide_eq_true (by omega))]
        have := q _ (Same.refl _)
        rw [countC, if_neg r2, if_pos r3] at this
        exact ⟨A.C_Elimination, dx, _, ob, T.cl_Elimination, T.na_Elimination_period, _, lf_period, this⟩
      · rw [if_neg (by rw [decide_eq_true_eq]; omega)]
        have lp := hE0.lp
        refine ⟨A.C_Elimination, dx, _, ob, T.cl_Elimination, T.na_Elimination_pivots, _, lf_pivots, pa, rfl, ⟨_, hE0.ps.1⟩, fun D hD => lc_objV (fun r => V.int r.2.2) hE0.ps.1 hD (by omega) (fun r H' R hr s1 kk => ?_) (fun H' s1 e1 => ?_)⟩
        · obtain ⟨b, c1, c2⟩ := hE0.ps.2.1 r hr
          walk_at "wp"
          exact ⟨_, sameT s1 c1, rfl, _, _, rfl, _, _, rfl, rfl, kk _ (Same.refl _)⟩
        · refine ⟨D, ps.map fun r => r.2.2, rfl, ?_, ?_⟩
          · rw [List.map_map]
            exact SqL.of e1
          · have := q _ s1
            rw [countC, if_neg r2, if_neg r3, ← hE0.ps.2.2, List.map_map] at this
            exact this
theorem ok_Elimination_put_in (T : Txt K mg A) : FnOk P w K mg base CX0 2 A.f_Elimination_put_in A.d_Elimination_put_in ["self", "expression", "value"] (sp_Elimination_put_in A K) := by
  have G_with_constant_added := ok_with_constant_added (w := w) (base := base) T
  have G_without := ok_without (w := w) (base := base) T
  refine T.F_Elimination_put_in.ok sc_Elimination_put_in (fun vs H Q E h => ?_) (fun cdv A' outer s H vs Q E hr h => ?_)
  · obtain ⟨a, dx, s, ds, ra, oa, la, ua, pa, n, k, rs, os, ls, us, ps, e, y, v, rfl, _⟩ := h
    rfl
  · obtain ⟨a, dx, s, ds, ra, oa, la, ua, pa, n, k, rs, os, ls, us, ps, e, y, v, rfl, hE0, hE, hl, hv, hc, q⟩ := h
    refine ⟨_, (pss_one (ps_ret (pe_call G_with_constant_added hr (by rfl) T.g_with_constant_added T.F_with_constant_added.kp T.B_with_constant_added .nil pass0 (pa_cons (pe_call G_without hr (by rfl) T.g_without T.F_without.kp T.B_without .nil pass0 (pa_cons (pv 1) (pa_cons (pe_fld (pv 0) rfl) pa_nil))) (pa_cons (pe_op op_mulX (pv 2) (pe_ix ix_tup (pv 1) (pe_fld (pv 0) rfl) (fun _ _ => rfl))) pa_nil))))), ?_⟩
    walk_at "wp"
    have hkl : k < y.1.length := by rw [hl]; exact hE0.kn
    have h40 := hE0.n40
    refine ⟨A.C_Elimination, dx, _, hE0.ob, T.cl_Elimination, T.na_Elimination_k, _, lf_k, e, y, k, rfl, hE, hkl, by omega, fun H1 t s1 hT => ?_⟩
    refine ⟨A.C_Elimination, dx, _, s1 _ _ hE0.ob, T.cl_Elimination, T.na_Elimination_k, _, lf_k, _, _, rfl, sameT s1 hE, _, at_co hkl, _, rfl, ⟨60, 64, hv, hc, by decide⟩, ?_⟩
    refine ⟨t, wo k y.1, y.2, _, rfl, hT, ?_, fun H2 u s2 hU => q _ u (s1.trans s2) hU⟩
    rw [wo_len hkl]
    omega
theorem ok_Elimination_equation_at (T : Txt K mg A) : FnOk P w K mg base CX0 2 A.f_Elimination_equation_at A.d_Elimination_equation_at ["self", "index"] (sp_Elimination_equation_at A K) := by
  have G_with_constant_added := ok_with_constant_added (w := w) (base := base) T
  refine T.F_Elimination_equation_at.ok sc_Elimination_equation_at (fun vs H Q E h => ?_) (fun cdv A' outer s H vs Q E hr h => ?_)
  · obtain ⟨a, dx, s, ds, ra, oa, la, ua, pa, n, k, rs, os, ls, us, ps, i, rfl, _⟩ := h
    rfl
  · obtain ⟨a, dx, s, ds, ra, oa, la, ua, pa, n, k, rs, os, ls, us, ps, i, rfl, hE0, i0, i1, q⟩ := h
    refine ⟨_, (pss_cons (ps_set (i := 2) sc_Elimination_equation_at.nd rfl (Or.inl rfl) pe_int) 
    (pss_cons (ps_set (i := 3) sc_Elimination_equation_at.nd rfl (Or.inl rfl) (pv 1)) 
    (pss_cons (ps_while PassesOwn.never (pt_cmpR op_ge (pv 3) (pe_ix ix_tup (pe_ix ix_list (pe_fld (pv 0) rfl) (pv 2) (fun _ _ => rfl)) pe_int (fun _ _ => rfl)) (nomark _)) 
      (pss_cons (ps_aug (i := 3) sc_Elimination_equation_at.nd rfl (Or.inl rfl) (pe_ix ix_tup (pe_ix ix_list (pe_fld (pv 0) rfl) (pv 2) (fun _ _ => rfl)) pe_int (fun _ _ => rfl)) ip_sub) 
      (pss_one (ps_aug (i := 2) sc_Elimination_equation_at.nd rfl (Or.inl rfl) pe_int ip_add)))) 
    (pss_one (ps_ret (pe_call G_with_constant_added hr (by rfl) T.g_with_constant_added T.F_with_constant_added.kp T.B_with_constant_added .nil pass0 (pa_cons (pe_ix ix_tup (pe_ix ix_list (pe_fld (pv 0) rfl) (pv 2) (fun _ _ => rfl)) pe_int (fun _ _ => rfl)) (pa_cons (pe_un un_neg (pv 3)) pa_nil)))))))), ?_⟩
    walk_at "wp"
    have ob := hE0.ob
    rw [← hE0.ps.2.2] at i1 q
    have lp := hE0.lp
    refine loopw (fun m σ H' => H' = H ∧ ∃ (j : Nat) (r : Int), σ = [some (V.ref a), some (V.int i), some (V.int (j : Int)), some (V.int r)] ∧ m = ps.length - j ∧ 0 ≤ r ∧ r < (((ps.map (·.2)).drop j).map (·.2)).sum ∧ eqAt ((ps.map (·.2)).drop j) r = eqAt (ps.map (·.2)) i) ps.length ⟨rfl, 0, i, rfl, rfl, i0, i1, rfl⟩ ?_
    rintro m σ H1 ⟨rfl, j, r, rfl, rfl, r0, r1, er⟩
    have hj : j < ps.length := by
      refine Classical.byContradiction fun z => ?_
      rw [List.drop_of_length_le (by rw [List.length_map]; omega)] at r1
      change r < 0 at r1
      omega
    rw [List.drop_eq_getElem_cons (by rw [List.length_map]; exact hj), List.getElem_map] at r1 er
    have hm := List.getElem_mem hj
    have ha : atI (rsv ps) (j : Int) = some (V.ref ps[j].1) := atI_nat (by rw [rsv, List.getElem?_map, List.getElem?_eq_getElem hj]; rfl)
    generalize ps[j] = p at *
    obtain ⟨b, c1, c2⟩ := hE0.ps.2.1 p hm
    walk_at "wp"
    refine ⟨A.C_Elimination, dx, _, ob, T.cl_Elimination, T.na_Elimination_pivots, _, lf_pivots, pa, rfl, _, hE0.ps.1, _, ha, p.1, rfl, _, c1, _, (show atI [V.ref b, V.int p.2.2] 1 = some (V.int p.2.2) from rfl), _, rfl, ?_⟩
    by_cases hq : p.2.2 ≤ r
    · rw [if_pos (decide_eq_true hq)]
      refine turn_of ?_
      walk_at "wp"
      refine ⟨A.C_Elimination, dx, _, ob, T.cl_Elimination, T.na_Elimination_pivots, _, lf_pivots, pa, rfl, _, hE0.ps.1, _, ha, p.1, rfl, _, c1, _, (show atI [V.ref b, V.int p.2.2] 1 = some (V.int p.2.2) from rfl), ?_⟩
      rw [eqAt, if_neg (by omega)] at er
      rw [List.map_cons, List.sum_cons] at r1
      exact ⟨_, rfl, ps.length - (j + 1), by omega, j + 1, by rw [Int.natCast_add]; rfl, rfl, by omega, by omega, er⟩
    · rw [if_neg (by rw [decide_eq_false hq]; decide)]
      rw [eqAt, if_pos (by omega)] at er
      have h40 := hE0.n40
      refine ⟨A.C_Elimination, dx, _, ob, T.cl_Elimination, T.na_Elimination_pivots, _, lf_pivots, pa, rfl, _, hE0.ps.1, _, ha, p.1, rfl, _, c1, _, (show atI [V.ref b, V.int p.2.2] 0 = some (V.ref b) from rfl), b, p.2.1.1, p.2.1.2, - r, rfl, c2, by rw [(hE0.pi hm).1]; omega, fun H2 t s2 hT => q _ t s2 ?_⟩
      rw [← er]
      exact hT
theorem ok_Elimination_joined_rows (T : Txt K mg A) : FnOk P w K mg base CX0 2 A.f_Elimination_joined_rows A.d_Elimination_joined_rows ["self"] (sp_Elimination_joined_rows A K) := by
  have G_changed := ok_changed (w := w) (base := base) T
  have G_without := ok_without (w := w) (base := base) T
  have G_add := ok_add (w := w) (base := base) T
  have G_multiply := ok_multiply (w := w) (base := base) T
  refine T.F_Elimination_joined_rows.ok sc_Elimination_joined_rows (fun vs H Q E h => ?_) (fun cdv A' outer s H vs Q E hr h => ?_)
  · obtain ⟨a, dx, s, ds, ra, oa, la, ua, pa, n, k, rs, os, ls, us, ps, rfl, _⟩ := h
    rfl
  · obtain ⟨a, dx, s, ds, ra, oa, la, ua, pa, n, k, rs, os, ls, us, ps, rfl, hE0, hJ, q⟩ := h
    refine ⟨_, (pss_cons (ps_setLc (i := 1) (own := [("row", 2)]) (by rfl) sc_Elimination_joined_rows.nd rfl rfl (sw_true rfl rfl rfl (by decide +kernel)) (pi_list (pe_fld (pv 0) rfl)) (blkOk_by (own := [("row", 2)]) (N := ["self", "rows", "row", "lower", "upper", "joined"]) (sc := defScope s_Elimination_joined_rows) (by decide +kernel)) (fun _ _ _ _ _ => (pg_name (i := 2) sc_Elimination_joined_rows.nd rfl (Or.inl rfl) (Or.inr rfl))) (fun _ _ _ _ _ => pts_nil) (fun _ _ _ _ _ => (pe_call G_changed hr (by rfl) T.g_changed T.F_changed.kp T.B_changed .nil pass0 (pa_cons (pv 2) (pa_cons (pe_call G_without hr (by rfl) T.g_without T.F_without.kp T.B_without .nil pass0 (pa_cons (pe_ix (r := rIxT K) ix_tup (pv 2) (pe_un un_neg pe_int) (fun _ _ => rfl)) (pa_cons (pe_fldK (K := K) (pv 0) (by rfl) (by rfl)) pa_nil))) pa_nil))))) 
    (pss_cons (ps_for PassesOwn.never rfl (pi_list (pe_fld (pv 0) rfl)) (pg_name (i := 3) sc_Elimination_joined_rows.nd rfl (Or.inl rfl)) 
      (pss_one (ps_for PassesOwn.never rfl (pi_list (pe_fld (pv 0) rfl)) (pg_name (i := 4) sc_Elimination_joined_rows.nd rfl (Or.inl rfl)) 
        (pss_cons (ps_set (i := 5) sc_Elimination_joined_rows.nd rfl (Or.inl rfl) (pe_call G_add hr (by rfl) T.g_add T.F_add.kp T.B_add .nil pass0 (pa_cons (pe_call G_multiply hr (by rfl) T.g_multiply T.F_multiply.kp T.B_multiply .nil pass0 (pa_cons (pe_ix ix_tup (pv 3) (pe_fld (pv 0) rfl) (fun _ _ => rfl)) (pa_cons (pv 4) pa_nil))) (pa_cons (pe_call G_multiply hr (by rfl) T.g_multiply T.F_multiply.kp T.B_multiply .nil pass0 (pa_cons (pe_un un_neg (pe_ix ix_tup (pv 4) (pe_fld (pv 0) rfl) (fun _ _ => rfl))) (pa_cons (pv 3) pa_nil))) pa_nil)))) 
        (pss_one (ps_expr (pe_bm PySem.F.plainAttrs_list PySem.F.slot_list_append PySem.F.type_list_append mt_append (pv 1) (pa_cons (pe_tup (pa_cons pe_str (pa_cons (pe_call G_without hr (by rfl) T.g_without T.F_without.kp T.B_without .nil pass0 (pa_cons (pv 5) (pa_cons (pe_fld (pv 0) rfl) pa_nil))) pa_nil))) pa_nil)))))))) 
    (pss_one (ps_ret (pv 1))))), ?_⟩
    walk_at "wp"
    have h40 := hE0.n40
    have hkn := hE0.kn
    obtain ⟨no, nl, nu⟩ := hE0.ln
    refine ⟨A.C_Elimination, dx, _, hE0.ob, T.cl_Elimination, T.na_Elimination_others, _, lf_others, oa, rfl, ⟨_, hE0.os.1⟩, fun D nD => lc_rs (P := CtT K) ct_stay (walk_list (xs := rsv os)) ((os.map (·.2)).map fun t => ⟨t.k, wo k t.c, t.d⟩) nD (by rw [rsv, List.length_map]; omega) (by rw [rsv, List.length_map, List.length_map, List.length_map]) (fun H' s => s.seq hE0.os.1) yat_same (fun i x y H1 H2 R hi hy s1 yy kR => ?_) (fun H' zs0 s1 e1 a1 r1 => ?_)⟩
    · obtain ⟨rfl, e⟩ := yat_at yy
      rw [rsv, List.length_map] at hi
      rw [rsv, List.getElem?_map, List.getElem?_eq_getElem hi] at e
      rw [List.getElem?_map, List.getElem?_map, List.getElem?_eq_getElem hi] at hy
      cases e
      cases hy
      have hm := List.getElem_mem hi
      generalize os[i] = r at *
      have hC := (hE0.os.2.1 r hm).same s1
      obtain ⟨ea, c1, c2⟩ := hC
      have lr := hE0.oo r hm
      walk_at "wp"
      refine ⟨_, c1, _, kv_last, A.C_Elimination, dx, _, s1 _ _ hE0.ob, T.cl_Elimination, T.na_Elimination_k, _, lf_k, ea, r.2.ex, k, rfl, c2, by show k < r.2.c.length; omega, by show r.2.c.length ≤ 100; omega, fun H3 t s3 hT => ?_⟩
      exact ⟨r.1, t, r.2, _, rfl, CtT.same ⟨ea, c1, c2⟩ s3, hT, fun H4 z s4 hZ => kR _ z (s3.trans s4) hZ⟩
    · have E1 := hE0.same s1
      refine ⟨A.C_Elimination, dx, _, E1.ob, T.cl_Elimination, T.na_Elimination_lowers, _, lf_lowers, la, rfl, ⟨_, E1.ls.1⟩, ?_⟩
      have z0 : zs0.length ≤ os.length := by
        rw [← List.length_map (f := (·.2)), r1, List.length_map, List.length_map]
        exact Nat.le_refl _
      refine loop_it (walk_list (xs := rsv ls)) (fun i σ H2 => ∃ (zs : List Rw) (v3 v4 v5 : Option V), σ = [some (V.ref a), some (V.ref D), none, v3, v4, v5] ∧ Same H H2 ∧ H2 D = some (.lst (rv zs)) ∧ RwOk K H2 zs ∧ zs.length ≤ os.length + us.length * i ∧ cts zs = (othE k (cts rs)).map (fun t => ⟨t.k, wo k t.c, t.d⟩) ++ (((ls.take i).map fun l => us.map fun u => joinE k l.2 u.2).flatten)) ⟨zs0, none, none, none, rfl, s1, e1, a1, by omega, ?_⟩ (fun _ _ _ _ p => ?_) ?_ ?_
      · rw [List.take_zero, List.map_nil, List.flatten_nil, List.append_nil, cts, r1, hE0.os.2.2]
      · obtain ⟨zs, v3, v4, v5, _, s2, _⟩ := p
        exact s2.seq hE0.ls.1
      · rintro i x σ H2 H3 hi ⟨zs, v3, v4, v5, rfl, s2, e2, a2, l2, r2⟩ yy
        obtain ⟨rfl, e⟩ := yat_at yy
        rw [rsv, List.length_map] at hi
        rw [rsv, List.getElem?_map, List.getElem?_eq_getElem hi] at e
        cases e
        rw [List.take_succ_eq_append_getElem hi]
        have hij : us.length * i + us.length ≤ us.length * ls.length := by rw [← Nat.mul_succ]; exact Nat.mul_le_mul_left _ hi
        have hm := List.getElem_mem hi
        generalize ls[i] = l at *
        obtain ⟨bl1, bl2, bl3, bl4⟩ := hE0.lo l hm
        have E2 := hE0.same s2
        walk_at "wp"
        refine ⟨A.C_Elimination, dx, _, E2.ob, T.cl_Elimination, T.na_Elimination_uppers, _, lf_uppers, ua, rfl, ⟨_, E2.us.1⟩, ?_⟩
        generalize (othE k (cts rs)).map (fun t => (⟨t.k, wo k t.c, t.d⟩ : Ct)) = bs at *
        refine loop_it (walk_list (xs := rsv us)) (fun j σ H4 => ∃ (zs : List Rw) (v4 v5 : Option V), σ = [some (V.ref a), some (V.ref D), none, some (V.ref l.1), v4, v5] ∧ Same H H4 ∧ H4 D = some (.lst (rv zs)) ∧ RwOk K H4 zs ∧ zs.length ≤ os.length + us.length * i + j ∧ cts zs = (bs ++ (((ls.take i).map fun l => us.map fun u => joinE k l.2 u.2).flatten)) ++ (us.take j).map fun u => joinE k l.2 u.2) ⟨zs, _, _, rfl, s2, e2, a2, by omega, by rw [List.take_zero, List.map_nil, List.append_nil]; exact r2⟩ (fun _ _ _ _ p => ?_) ?_ ?_
        · obtain ⟨_, _, _, _, s4, _⟩ := p
          exact s4.seq hE0.us.1
        · rintro j x σ H4 H5 hj ⟨zs, v4, v5, rfl, s4, e4, a4, l4, r4⟩ yy
          obtain ⟨rfl, e⟩ := yat_at yy
          rw [rsv, List.length_map] at hj
          rw [rsv, List.getElem?_map, List.getElem?_eq_getElem hj] at e
          cases e
          rw [List.take_succ_eq_append_getElem hj]
          have hu := List.getElem_mem hj
          generalize us[j] = u at *
          obtain ⟨bu1, bu2, bu3, bu4⟩ := hE0.up u hu
          have E4 := hE0.same s4
          have xl := E4.ls.2.1 l hm
          have xu := E4.us.2.1 u hu
          have lul : u.2.e.length = n + 1 := by rw [Ex.e, List.length_append, bu1]; rfl
          have lll : l.2.e.length = n + 1 := by rw [Ex.e, List.length_append, bl1]; rfl
          walk_at "wp"
          refine ⟨A.C_Elimination, dx, _, E4.ob, T.cl_Elimination, T.na_Elimination_k, _, lf_k, _, _, rfl, xl, _, at_co (by omega), _, u.1, u.2.e, rfl, xu, by omega, bl3.mono (by decide), fun x hx => (bu4 x hx).mono (by decide), fun H6 t1 s6 hT1 => ?_⟩
          have E6 := E4.same s6
          refine ⟨A.C_Elimination, dx, _, E6.ob, T.cl_Elimination, T.na_Elimination_k, _, lf_k, _, _, rfl, sameT s6 xu, _, at_co (by omega), _, rfl, _, l.1, l.2.e, rfl, sameT s6 xl, by omega, (sz_neg bu3).mono (by decide), fun x hx => (bl4 x hx).mono (by decide), fun H7 t2 s7 hT2 => ?_⟩
          refine ⟨t1, t2, _, _, rfl, sameT s7 hT1, hT2, by rw [List.length_map, List.length_map]; omega, by rw [List.length_map]; omega, fun H8 t3 s8 hT3 => ?_⟩
          rw [join_e bl1 bu1] at hT3
          have s48 := (s6.trans s7).trans s8
          have e8 := s48 _ _ e4
          have lj : (List.zipWith (· + ·) (u.2.1.map (co k l.2 * ·)) (l.2.1.map (- co k u.2 * ·))).length = n := by
            rw [List.length_zipWith, List.length_map, List.length_map]
            omega
          refine ⟨.inl ⟨rfl, _, SqL.of e8⟩, A.C_Elimination, dx, _, (E4.same s48).ob, T.cl_Elimination, T.na_Elimination_k, _, lf_k, t3, (List.zipWith (· + ·) (u.2.1.map (co k l.2 * ·)) (l.2.1.map (- co k u.2 * ·)), co k l.2 * u.2.2 + - co k u.2 * l.2.2), k, rfl, hT3, Nat.lt_of_lt_of_eq hkn lj.symm, Nat.le_trans (Nat.le_of_eq lj) (by omega), fun H9 t4 s9 hT4 => ⟨by decide, fun p np => ?_⟩⟩
          have s5 := (s48.trans s9).trans (same_upd (o := .tup [V.str (Str.ofString "ge"), V.ref t4]) np)
          have hP : CtT K (upd H9 p (.tup [V.str (Str.ofString "ge"), V.ref t4])) p (joinE k l.2 u.2) := ⟨t4, SqT.of upd_same, sameT (same_upd np) hT4⟩
          have e5 := s5 _ _ e4
          refine ⟨_, e5, smallM (by rw [rv, List.length_map]; omega), same_upd2 (s4.trans s5) nD, zs ++ [(p, joinE k l.2 u.2)], ?_, rw_app s5 e5 a4 hP, by rw [List.length_append, List.length_singleton]; omega, ?_⟩
          · rw [upd_same, rv_app]
          · rw [cts_app, r4, List.map_append, ← List.append_assoc]
            rfl
        · rintro σ H4 ⟨zs, v4, v5, rfl, s4, e4, a4, l4, r4⟩
          rw [rsv, List.length_map] at l4 r4
          refine ⟨zs, _, _, _, rfl, s4, e4, a4, by rw [Nat.mul_succ]; omega, ?_⟩
          rw [r4, List.take_length, List.map_append, List.flatten_append, List.append_assoc, List.map_cons, List.map_nil, List.flatten_cons, List.flatten_nil, List.append_nil]
      · rintro σ H2 ⟨zs, v3, v4, v5, rfl, s2, e2, a2, l2, r2⟩
        walk_at "wp"
        refine q _ D zs s2 (SqL.of e2) a2 ?_
        rw [r2, joined, ← hE0.ls.2.2, ← hE0.us.2.2, show (rsv ls).length = ls.length from List.length_map .., List.take_length, List.map_map]
        simp only [List.map_map]
        rfl
theorem ok_Elimination_solved_rows (T : Txt K mg A) : FnOk P w K mg base CX0 2 A.f_Elimination_solved_rows A.d_Elimination_solved_rows ["self", "equation"] (sp_Elimination_solved_rows A K) := by
  have G_without := ok_without (w := w) (base := base) T
  have G_multiply := ok_multiply (w := w) (base := base) T
  have G_difference := ok_difference (w := w) (base := base) T
  refine T.F_Elimination_solved_rows.ok sc_Elimination_solved_rows (fun vs H Q E h => ?_) (fun cdv A' outer s H vs Q E hr h => ?_)
  · obtain ⟨a, dx, s, ds, ra, oa, la, ua, pa, n, k, rs, os, ls, us, ps, e, y, rfl, _⟩ := h
    rfl
  · obtain ⟨a, dx, s, ds, ra, oa, la, ua, pa, n, k, rs, os, ls, us, ps, e, y, rfl, hE0, hE, hl, hc, c4, hz, q⟩ := h
    refine ⟨_, (pss_cons (ps_set (i := 2) sc_Elimination_solved_rows.nd rfl (Or.inl rfl) (pe_ix ix_tup (pv 1) (pe_fld (pv 0) rfl) (fun _ _ => rfl))) 
    (pss_cons (ps_set (i := 3) sc_Elimination_solved_rows.nd rfl (Or.inl rfl) (pe_call G_without hr (by rfl) T.g_without T.F_without.kp T.B_without .nil pass0 (pa_cons (pv 1) (pa_cons (pe_fld (pv 0) rfl) pa_nil)))) 
    (pss_cons (ps_set (i := 4) sc_Elimination_solved_rows.nd rfl (Or.inl rfl) (pe_lst (pa_cons (pe_tup (pa_cons pe_str (pa_cons (pe_callB call_abs (by rfl) T.b_abs (by decide +kernel) (pa_cons (pv 2) pa_nil)) (pa_cons (pv 3) pa_nil)))) pa_nil))) 
    (pss_cons (ps_for PassesOwn.never rfl (pi_tup (pe_fld (pe_fld (pv 0) rfl) rfl)) (pg_name (i := 5) sc_Elimination_solved_rows.nd rfl (Or.inl rfl)) 
      (pss_cons (ps_set (i := 6) sc_Elimination_solved_rows.nd rfl (Or.inl rfl) (pe_ifExp (pt_cmpR op_gt (pv 2) pe_int (nomark _)) (pe_ix ix_tup (pe_ix ix_tup (pv 5) (pe_un un_neg pe_int) (fun _ _ => rfl)) (pe_fld (pv 0) rfl) (fun _ _ => rfl)) (pe_un un_neg (pe_ix ix_tup (pe_ix ix_tup (pv 5) (pe_un un_neg pe_int) (fun _ _ => rfl)) (pe_fld (pv 0) rfl) (fun _ _ => rfl))))) 
      (pss_cons (ps_set (i := 7) sc_Elimination_solved_rows.nd rfl (Or.inl rfl) (pe_call G_multiply hr (by rfl) T.g_multiply T.F_multiply.kp T.B_multiply .nil pass0 (pa_cons (pe_callB call_abs (by rfl) T.b_abs (by decide +kernel) (pa_cons (pv 2) pa_nil)) (pa_cons (pe_call G_without hr (by rfl) T.g_without T.F_without.kp T.B_without .nil pass0 (pa_cons (pe_ix ix_tup (pv 5) (pe_un un_neg pe_int) (fun _ _ => rfl)) (pa_cons (pe_fld (pv 0) rfl) pa_nil))) pa_nil)))) 
      (pss_cons (ps_set (i := 8) sc_Elimination_solved_rows.nd rfl (Or.inl rfl) (pe_ifExp (pt_cmpR op_ne (pe_ix ix_tup (pv 5) pe_int (fun _ _ => rfl)) pe_str (nomark _)) (pe_slice sl_tupA (pv 5) po_none (po_some (pe_un un_neg pe_int))) (pe_tup (pa_cons pe_str (pa_cons (pe_op op_mulX (pe_ix ix_tup (pv 5) pe_int (fun _ _ => rfl)) (pe_callB call_abs (by rfl) T.b_abs (by decide +kernel) (pa_cons (pv 2) pa_nil))) pa_nil))))) 
      (pss_one (ps_expr (pe_bm PySem.F.plainAttrs_list PySem.F.slot_list_append PySem.F.type_list_append mt_append (pv 4) (pa_cons (pe_op op_catA (pv 8) (pe_tup (pa_cons (pe_call G_difference hr (by rfl) T.g_difference T.F_difference.kp T.B_difference .nil pass0 (pa_cons (pv 7) (pa_cons (pe_call G_multiply hr (by rfl) T.g_multiply T.F_multiply.kp T.B_multiply .nil pass0 (pa_cons (pv 6) (pa_cons (pv 3) pa_nil))) pa_nil))) pa_nil))) pa_nil)))))))) 
    (pss_one (ps_ret (pv 4))))))), ?_⟩
    walk_at "wp"
    have h40 := hE0.n40
    have hkn := hE0.kn
    have hke : k < y.1.length := by omega
    refine ⟨A.C_Elimination, dx, _, hE0.ob, T.cl_Elimination, T.na_Elimination_k, _, lf_k, _, _, rfl, hE, _, at_co hke, A.C_Elimination, dx, _, hE0.ob, T.cl_Elimination, T.na_Elimination_k, _, lf_k, e, y, k, rfl, hE, hke, by omega, fun H1 re s1 hR => ?_⟩
    refine ⟨_, rfl, by decide, fun p np => ⟨by decide, fun D nD => ?_⟩⟩
    rw [abs_if] at nD ⊢
    have s2 := (s1.trans (same_upd (o := .tup [V.str (Str.ofString "div"), V.int ((co k y).natAbs : Int), V.ref re]) np)).trans (same_upd (o := .lst [V.ref p]) nD)
    have e2 : upd (upd H1 p (.tup [V.str (Str.ofString "div"), V.int ((co k y).natAbs : Int), V.ref re])) D (.lst [V.ref p]) D = some (.lst [V.ref p]) := upd_same
    have hp2 : SqT K (upd (upd H1 p (.tup [V.str (Str.ofString "div"), V.int ((co k y).natAbs : Int), V.ref re])) D (.lst [V.ref p])) p [V.str (Str.ofString "div"), V.int ((co k y).natAbs : Int), V.ref re] := sameT (same_upd nD) (SqT.of upd_same)
    have hR2 := sameT ((same_upd (o := .tup [V.str (Str.ofString "div"), V.int ((co k y).natAbs : Int), V.ref re]) np).trans (same_upd (o := .lst [V.ref p]) nD)) hR
    generalize upd (upd H1 p (.tup [V.str (Str.ofString "div"), V.int ((co k y).natAbs : Int), V.ref re])) D (.lst [V.ref p]) = H2 at *
    have E2 := hE0.same s2
    refine ⟨A.C_Elimination, dx, _, E2.ob, T.cl_Elimination, T.na_Elimination_system, _, lf_system, s, rfl, A.C_System, ds, _, E2.sy.ob, T.cl_System, T.na_System_rows, _, look_rows, ra, rfl, ⟨_, E2.sy.rt⟩, ?_⟩
    have hlr : (rv rs).length = rs.length := by rw [rv, List.length_map]
    have nr := hE0.nr
    have nDH : ∀ {b o}, H b = some o → b ≠ D := fun {b o} e z => by
      have := s1 _ _ e
      have := same_upd (o := .tup [V.str (Str.ofString "div"), V.int ((co k y).natAbs : Int), V.ref re]) np _ _ this
      rw [z, nD] at this
      cases this
    have hD0 : H D = none := by
      cases h : H D with
      | none => rfl
      | some o => exact absurd rfl (nDH h)
    refine loop_it (walk_tup (xs := rv rs)) (fun i σ H3 => ∃ (zs : List Rw) (v5 v6 v7 v8 : Option V), σ = [some (V.ref a), some (V.ref e), some (V.int (co k y)), some (V.ref re), some (V.ref D), v5, v6, v7, v8] ∧ Same H H3 ∧ H3 D = some (.lst (rv zs)) ∧ RwOk K H3 zs ∧ SqT K H3 re ((Ex.e (wo k y.1, y.2)).map V.int) ∧ zs.length = 1 + i ∧ cts zs = ⟨.div ((co k y).natAbs : Int), wo k y.1, y.2⟩ :: ((cts rs).take i).map (solve1 k y)) ⟨[(p, ⟨.div ((co k y).natAbs : Int), wo k y.1, y.2⟩)], _, _, _, _, rfl, s2, e2, fun r hr => ?_, hR2, rfl, rfl⟩ (fun _ _ _ _ p => ?_) ?_ ?_
    · rw [List.mem_singleton.mp hr]
      exact ⟨re, hp2, hR2⟩
    · obtain ⟨_, _, _, _, _, _, s4, _⟩ := p
      exact sameT s4 hE0.sy.rt
    · rintro i x σ H3 H4 hi ⟨zs, v5, v6, v7, v8, rfl, s3, e3, a3, hR3, l3, r3⟩ yy
      obtain ⟨rfl, e'⟩ := yat_at yy
      rw [hlr] at hi
      rw [rv, List.getElem?_map, List.getElem?_eq_getElem hi] at e'
      cases e'
      have et : (cts rs).take (i + 1) = (cts rs).take i ++ [rs[i].2] := by
        rw [List.take_succ_eq_append_getElem (by rw [cts, List.length_map]; exact hi)]
        simp [cts]
      rw [et]
      have hm := List.getElem_mem hi
      generalize rs[i] = r at *
      have E3 := hE0.same s3
      have g := hE0.gd r hm
      have hC := E3.sy.ok r hm
      have hkr : k < r.2.c.length := by rw [g.len]; exact hkn
      obtain ⟨ea, c1, c2⟩ := hC
      walk_at "wp"
      by_cases hp : 0 < co k y
      · rw [if_pos (decide_eq_true hp)]
        refine ⟨_, c1, _, kv_last, A.C_Elimination, dx, _, E3.ob, T.cl_Elimination, T.na_Elimination_k, _, lf_k, _, rfl, _, _, rfl, c2, _, atC hkr, ?_⟩
        have hf : (if 0 < co k y then co k r.2.ex else - co k r.2.ex) = co k r.2.ex := if_pos hp
        refine ⟨_, c1, _, kv_last, A.C_Elimination, dx, _, E3.ob, T.cl_Elimination, T.na_Elimination_k, _, lf_k, ea, r.2.ex, k, rfl, c2, hkr, by show r.2.c.length ≤ 100; rw [g.len]; omega, fun H5 t1 s5 hT1 => ?_⟩
        show sp_multiply K [V.int (if co k y < 0 then - co k y else co k y), V.ref t1] H5 _ E0
        rw [abs_if]
        have hwr : (wo k r.2.c).length = n - 1 := by rw [wo_len hkr, g.len]
        have hwy : (wo k y.1).length = n - 1 := by rw [wo_len hke, hl]
        have lwr : (Ex.e (wo k r.2.c, r.2.d)).length = n := by rw [Ex.e, List.length_append, hwr, List.length_singleton]; omega
        have lwy : (Ex.e (wo k y.1, y.2)).length = n := by rw [Ex.e, List.length_append, hwy, List.length_singleton]; omega
        refine ⟨_, t1, Ex.e (wo k r.2.c, r.2.d), rfl, hT1, by omega, (Sz.abs c4).mono (by decide), fun x hx => (sz_e (ex_sz g) x hx).mono (by decide), fun H6 t2 s6 hT2 => ?_⟩
        have s46 := s5.trans s6
        have c6 := sameT s46 c1
        have cF := co_sz g hkn
        refine ⟨_, c6, _, kv_nm, rfl, ?_⟩
        rw [nm_div]
        cases hkd : r.2.k with
        | ge =>
          rw [hkd] at c6
          rw [if_pos (by rfl)]
          refine sl_init (xs := [V.str (Str.ofString "ge")]) c6 fun H7 hd s67 hH => ?_
          have s47 := s46.trans s67
          refine ⟨.inl ⟨rfl, _, SqL.of (s47 _ _ e3)⟩, co k r.2.ex, re, Ex.e (wo k y.1, y.2), rfl, sameT s47 hR3, by omega, cF.mono (by decide), fun x hx => (sz_e hz x hx).mono (by decide), fun H8 t3 s8 hT3 => ?_⟩
          refine ⟨t2, t3, _, _, rfl, sameT (s67.trans s8) hT2, hT3, by rw [List.length_map, List.length_map]; omega, by rw [List.length_map]; omega, fun H9 t4 s9 hT4 => ⟨by decide, fun pp npp => cat_sm (ys := [V.ref t4]) (sameT ((s8.trans s9).trans (same_upd npp)) hH) (SqT.of upd_same) (Nat.le_of_ble_eq_true rfl) fun H10 pz s10 hP => ?_⟩⟩
          rw [diff_e (by rw [hwy]; exact hwr)] at hT4
          have s410 := ((s47.trans s8).trans (s9.trans (same_upd (o := .tup [V.ref t4]) npp))).trans s10
          have e10 := s410 _ _ e3
          have hZ : CtT K H10 pz (solve1 k y r.2) := by
            rw [solve1, hf, hkd]
            exact ⟨t4, hP, sameT ((same_upd (o := .tup [V.ref t4]) npp).trans s10) hT4⟩
          refine ⟨_, e10, smallM (by rw [rv, List.length_map]; omega), same_upd2 (s3.trans s410) hD0, zs ++ [(pz, solve1 k y r.2)], ?_, rw_app s410 e10 a3 hZ, sqT_upd e10 (sameT s410 hR3), by rw [List.length_append, List.length_singleton]; omega, ?_⟩
          · rw [upd_same, rv_app]
          · rw [cts_app, r3, List.map_append]
            rfl
        | eq =>
          rw [hkd] at c6
          rw [if_pos (by rfl)]
          refine sl_init (xs := [V.str (Str.ofString "eq")]) c6 fun H7 hd s67 hH => ?_
          have s47 := s46.trans s67
          refine ⟨.inl ⟨rfl, _, SqL.of (s47 _ _ e3)⟩, co k r.2.ex, re, Ex.e (wo k y.1, y.2), rfl, sameT s47 hR3, by omega, cF.mono (by decide), fun x hx => (sz_e hz x hx).mono (by decide), fun H8 t3 s8 hT3 => ?_⟩
          refine ⟨t2, t3, _, _, rfl, sameT (s67.trans s8) hT2, hT3, by rw [List.length_map, List.length_map]; omega, by rw [List.length_map]; omega, fun H9 t4 s9 hT4 => ⟨by decide, fun pp npp => cat_sm (ys := [V.ref t4]) (sameT ((s8.trans s9).trans (same_upd npp)) hH) (SqT.of upd_same) (Nat.le_of_ble_eq_true rfl) fun H10 pz s10 hP => ?_⟩⟩
          rw [diff_e (by rw [hwy]; exact hwr)] at hT4
          have s410 := ((s47.trans s8).trans (s9.trans (same_upd (o := .tup [V.ref t4]) npp))).trans s10
          have e10 := s410 _ _ e3
          have hZ : CtT K H10 pz (solve1 k y r.2) := by
            rw [solve1, hf, hkd]
            exact ⟨t4, hP, sameT ((same_upd (o := .tup [V.ref t4]) npp).trans s10) hT4⟩
          refine ⟨_, e10, smallM (by rw [rv, List.length_map]; omega), same_upd2 (s3.trans s410) hD0, zs ++ [(pz, solve1 k y r.2)], ?_, rw_app s410 e10 a3 hZ, sqT_upd e10 (sameT s410 hR3), by rw [List.length_append, List.length_singleton]; omega, ?_⟩
          · rw [upd_same, rv_app]
          · rw [cts_app, r3, List.map_append]
            rfl
        | div m =>
          rw [hkd] at c6
          rw [if_neg (by intro z; cases z)]
          have hms : Sz 64 m := by
            have := g.ms
            rw [hkd] at this
            exact this
          refine ⟨_, c6, V.int m, rfl, m, rfl, ⟨64, 64, hms, Sz.abs c4, by decide⟩, by decide, fun hd nhd => ?_⟩
          have s67 := same_upd (H := H6) (o := .tup [V.str (Str.ofString "div"), V.int (m * ((co k y).natAbs : Int))]) nhd
          have s47 := s46.trans s67
          have hH : SqT K (upd H6 hd (.tup [V.str (Str.ofString "div"), V.int (m * ((co k y).natAbs : Int))])) hd [V.str (Str.ofString "div"), V.int (m * ((co k y).natAbs : Int))] := SqT.of upd_same
          generalize upd H6 hd (.tup [V.str (Str.ofString "div"), V.int (m * ((co k y).natAbs : Int))]) = H7 at *
          refine ⟨.inl ⟨rfl, _, SqL.of (s47 _ _ e3)⟩, co k r.2.ex, re, Ex.e (wo k y.1, y.2), rfl, sameT s47 hR3, by omega, cF.mono (by decide), fun x hx => (sz_e hz x hx).mono (by decide), fun H8 t3 s8 hT3 => ?_⟩
          refine ⟨t2, t3, _, _, rfl, sameT (s67.trans s8) hT2, hT3, by rw [List.length_map, List.length_map]; omega, by rw [List.length_map]; omega, fun H9 t4 s9 hT4 => ⟨by decide, fun pp npp => cat_sm (ys := [V.ref t4]) (sameT ((s8.trans s9).trans (same_upd npp)) hH) (SqT.of upd_same) (Nat.le_of_ble_eq_true rfl) fun H10 pz s10 hP => ?_⟩⟩
          rw [diff_e (by rw [hwy]; exact hwr)] at hT4
          have s410 := ((s47.trans s8).trans (s9.trans (same_upd (o := .tup [V.ref t4]) npp))).trans s10
          have e10 := s410 _ _ e3
          have hZ : CtT K H10 pz (solve1 k y r.2) := by
            rw [solve1, hf, hkd]
            exact ⟨t4, hP, sameT ((same_upd (o := .tup [V.ref t4]) npp).trans s10) hT4⟩
          refine ⟨_, e10, smallM (by rw [rv, List.length_map]; omega), same_upd2 (s3.trans s410) hD0, zs ++ [(pz, solve1 k y r.2)], ?_, rw_app s410 e10 a3 hZ, sqT_upd e10 (sameT s410 hR3), by rw [List.length_append, List.length_singleton]; omega, ?_⟩
          · rw [upd_same, rv_app]
          · rw [cts_app, r3, List.map_append]
            rfl
      · rw [if_neg (by rw [decide_eq_false hp]; decide)]
        refine ⟨_, c1, _, kv_last, A.C_Elimination, dx, _, E3.ob, T.cl_Elimination, T.na_Elimination_k, _, lf_k, _, rfl, _, _, rfl, c2, _, atC hkr, _, rfl, ?_⟩
        have hf : (if 0 < co k y then co k r.2.ex else - co k r.2.ex) = - co k r.2.ex := if_neg hp
        refine ⟨_, c1, _, kv_last, A.C_Elimination, dx, _, E3.ob, T.cl_Elimination, T.na_Elimination_k, _, lf_k, ea, r.2.ex, k, rfl, c2, hkr, by show r.2.c.length ≤ 100; rw [g.len]; omega, fun H5 t1 s5 hT1 => ?_⟩
        show sp_multiply K [V.int (if co k y < 0 then - co k y else co k y), V.ref t1] H5 _ E0
        rw [abs_if]
        have hwr : (wo k r.2.c).length = n - 1 := by rw [wo_len hkr, g.len]
        have hwy : (wo k y.1).length = n - 1 := by rw [wo_len hke, hl]
        have lwr : (Ex.e (wo k r.2.c, r.2.d)).length = n := by rw [Ex.e, List.length_append, hwr, List.length_singleton]; omega
        have lwy : (Ex.e (wo k y.1, y.2)).length = n := by rw [Ex.e, List.length_append, hwy, List.length_singleton]; omega
        refine ⟨_, t1, Ex.e (wo k r.2.c, r.2.d), rfl, hT1, by omega, (Sz.abs c4).mono (by decide), fun x hx => (sz_e (ex_sz g) x hx).mono (by decide), fun H6 t2 s6 hT2 => ?_⟩
        have s46 := s5.trans s6
        have c6 := sameT s46 c1
        have cF := co_sz g hkn
        refine ⟨_, c6, _, kv_nm, rfl, ?_⟩
        rw [nm_div]
        cases hkd : r.2.k with
        | ge =>
          rw [hkd] at c6
          rw [if_pos (by rfl)]
          refine sl_init (xs := [V.str (Str.ofString "ge")]) c6 fun H7 hd s67 hH => ?_
          have s47 := s46.trans s67
          refine ⟨.inl ⟨rfl, _, SqL.of (s47 _ _ e3)⟩, - co k r.2.ex, re, Ex.e (wo k y.1, y.2), rfl, sameT s47 hR3, by omega, (sz_neg cF).mono (by decide), fun x hx => (sz_e hz x hx).mono (by decide), fun H8 t3 s8 hT3 => ?_⟩
          refine ⟨t2, t3, _, _, rfl, sameT (s67.trans s8) hT2, hT3, by rw [List.length_map, List.length_map]; omega, by rw [List.length_map]; omega, fun H9 t4 s9 hT4 => ⟨by decide, fun pp npp => cat_sm (ys := [V.ref t4]) (sameT ((s8.trans s9).trans (same_upd npp)) hH) (SqT.of upd_same) (Nat.le_of_ble_eq_true rfl) fun H10 pz s10 hP => ?_⟩⟩
          rw [diff_e (by rw [hwy]; exact hwr)] at hT4
          have s410 := ((s47.trans s8).trans (s9.trans (same_upd (o := .tup [V.ref t4]) npp))).trans s10
          have e10 := s410 _ _ e3
          have hZ : CtT K H10 pz (solve1 k y r.2) := by
            rw [solve1, hf, hkd]
            exact ⟨t4, hP, sameT ((same_upd (o := .tup [V.ref t4]) npp).trans s10) hT4⟩
          refine ⟨_, e10, smallM (by rw [rv, List.length_map]; omega), same_upd2 (s3.trans s410) hD0, zs ++ [(pz, solve1 k y r.2)], ?_, rw_app s410 e10 a3 hZ, sqT_upd e10 (sameT s410 hR3), by rw [List.length_append, List.length_singleton]; omega, ?_⟩
          · rw [upd_same, rv_app]
          · rw [cts_app, r3, List.map_append]
            rfl
        | eq =>
          rw [hkd] at c6
          rw [if_pos (by rfl)]
          refine sl_init (xs := [V.str (Str.ofString "eq")]) c6 fun H7 hd s67 hH => ?_
          have s47 := s46.trans s67
          refine ⟨.inl ⟨rfl, _, SqL.of (s47 _ _ e3)⟩, - co k r.2.ex, re, Ex.e (wo k y.1, y.2), rfl, sameT s47 hR3, by omega, (sz_neg cF).mono (by decide), fun x hx => (sz_e hz x hx).mono (by decide), fun H8 t3 s8 hT3 => ?_⟩
          refine ⟨t2, t3, _, _, rfl, sameT (s67.trans s8) hT2, hT3, by rw [List.length_map, List.length_map]; omega, by rw [List.length_map]; omega, fun H9 t4 s9 hT4 => ⟨by decide, fun pp npp => cat_sm (ys := [V.ref t4]) (sameT ((s8.trans s9).trans (same_upd npp)) hH) (SqT.of upd_same) (Nat.le_of_ble_eq_true rfl) fun H10 pz s10 hP => ?_⟩⟩
          rw [diff_e (by rw [hwy]; exact hwr)] at hT4
          have s410 := ((s47.trans s8).trans (s9.trans (same_upd (o := .tup [V.ref t4]) npp))).trans s10
          have e10 := s410 _ _ e3
          have hZ : CtT K H10 pz (solve1 k y r.2) := by
            rw [solve1, hf, hkd]
            exact ⟨t4, hP, sameT ((same_upd (o := .tup [V.ref t4]) npp).trans s10) hT4⟩
          refine ⟨_, e10, smallM (by rw [rv, List.length_map]; omega), same_upd2 (s3.trans s410) hD0, zs ++ [(pz, solve1 k y r.2)], ?_, rw_app s410 e10 a3 hZ, sqT_upd e10 (sameT s410 hR3), by rw [List.length_append, List.length_singleton]; omega, ?_⟩
          · rw [upd_same, rv_app]
          · rw [cts_app, r3, List.map_append]
            rfl
        | div m =>
          rw [hkd] at c6
          rw [if_neg (by intro z; cases z)]
          have hms : Sz 64 m := by
            have := g.ms
            rw [hkd] at this
            exact this
          refine ⟨_, c6, V.int m, rfl, m, rfl, ⟨64, 64, hms, Sz.abs c4, by decide⟩, by decide, fun hd nhd => ?_⟩
          have s67 := same_upd (H := H6) (o := .tup [V.str (Str.ofString "div"), V.int (m * ((co k y).natAbs : Int))]) nhd
          have s47 := s46.trans s67
          have hH : SqT K (upd H6 hd (.tup [V.str (Str.ofString "div"), V.int (m * ((co k y).natAbs : Int))])) hd [V.str (Str.ofString "div"), V.int (m * ((co k y).natAbs : Int))] := SqT.of upd_same
          generalize upd H6 hd (.tup [V.str (Str.ofString "div"), V.int (m * ((co k y).natAbs : Int))]) = H7 at *
          refine ⟨.inl ⟨rfl, _, SqL.of (s47 _ _ e3)⟩, - co k r.2.ex, re, Ex.e (wo k y.1, y.2), rfl, sameT s47 hR3, by omega, (sz_neg cF).mono (by decide), fun x hx => (sz_e hz x hx).mono (by decide), fun H8 t3 s8 hT3 => ?_⟩
          refine ⟨t2, t3, _, _, rfl, sameT (s67.trans s8) hT2, hT3, by rw [List.length_map, List.length_map]; omega, by rw [List.length_map]; omega, fun H9 t4 s9 hT4 => ⟨by decide, fun pp npp => cat_sm (ys := [V.ref t4]) (sameT ((s8.trans s9).trans (same_upd npp)) hH) (SqT.of upd_same) (Nat.le_of_ble_eq_true rfl) fun H10 pz s10 hP => ?_⟩⟩
          rw [diff_e (by rw [hwy]; exact hwr)] at hT4
          have s410 := ((s47.trans s8).trans (s9.trans (same_upd (o := .tup [V.ref t4]) npp))).trans s10
          have e10 := s410 _ _ e3
          have hZ : CtT K H10 pz (solve1 k y r.2) := by
            rw [solve1, hf, hkd]
            exact ⟨t4, hP, sameT ((same_upd (o := .tup [V.ref t4]) npp).trans s10) hT4⟩
          refine ⟨_, e10, smallM (by rw [rv, List.length_map]; omega), same_upd2 (s3.trans s410) hD0, zs ++ [(pz, solve1 k y r.2)], ?_, rw_app s410 e10 a3 hZ, sqT_upd e10 (sameT s410 hR3), by rw [List.length_append, List.length_singleton]; omega, ?_⟩
          · rw [upd_same, rv_app]
          · rw [cts_app, r3, List.map_append]
            rfl
    · rintro σ H3 ⟨zs, v5, v6, v7, v8, rfl, s3, e3, a3, hR3, l3, r3⟩
      walk_at "wp"
      refine q _ D zs s3 (SqL.of e3) a3 ?_
      rw [r3, hlr, List.take_of_length_le (by rw [cts, List.length_map]; exact Nat.le_refl _)]
      rfl
end
local macro_rules | `(tactic| walk_at "wp") => `(tactic| simp only [tSeq, tCKw, tAsg, tPar, gName, gTup, gCons, gNil, tVar, tC, tOp, tUn, rI, rI0, rU, tCB, tCons, tNil, tIfS, tRet, tRetN, tNext, tNever, test_eq, tB, tTup, tLst, tCall, tCallS, tCallLS, tMakeS, tAddS, tChain, rNotInO, rInO, iEnumT, iEnum, rIsnotB, rIsB, iZipM, tMkO, tIf, tAndV, tOrV, tNotV, tNot, tAnd, tOr, rEq, rNe, scal_ii, scal_ss, scal_bb, dec_ii, dec_ss, dec_bb, for_eq, lc_eq, lc2_eq, while_eq, tDrop, tYes, iList, iTup, iOr, tDNewN, tNSet, rNSet, sFld, tFld, tMake, tProp, tMeth, cxP, cxW, iStr, iRng1, iRng2, RZ.iZipA, L2.start, rIxL, rIxT, rIxS, rSlS, cxK, tSl, tPart, tNoPart, tBM, tBM0, rAppend, rExtend, rRepS, rGcd, s_ge_eq, s_ge_div, s_eq_ge, s_eq_div, s_div_ge, s_div_eq, gSub, rSetL, tAug, ipI, rAdd, rSub, tM1, tM0,
  List.map_cons, List.map_nil, List.length_cons, List.length_nil, List.cons_append, List.nil_append, List.append_nil, List.getElem?_cons_succ, List.getElem?_cons_zero, List.set_cons_succ, List.set_cons_zero, Nat.reduceAdd, Nat.reduceSub, List.replicate_succ, List.replicate_zero, wipe,
  Option.some.injEq, V.int.injEq, V.str.injEq, sgn_eq, V.ref.injEq, V.bl.injEq, exists_eq_left, exists_eq_left', exists_and_left, exists_eq_right, List.cons.injEq, and_true, true_and, ex_bl, ex_int, exists_const, Nat.zero_add, Int.toNat_natCast, Int.zero_add, and_assoc, reduceCtorEq, false_and, and_false, exists_false, or_false, false_or, eq_self, decide_true, decide_false, ite_true, ite_false, if_true, if_false, Bool.false_eq_true, Bool.not_true, Bool.not_false, ↓reduceIte])
theorem el_make {A : Ad} {K : PySem.W.Frag} {H1 : Hp} {s ds ra : Addr} {n k : Nat} {rs : List Rw} {Qa : Addr → Hp → Prop} {E : XK} (hS : Sy K A.C_System H1 s ds ra n rs) (hG : ∀ r ∈ rs, Gn n r.2) (hr : rs.length ≤ 4200) (hd : nD (cts rs) ≤ 100) (hk : k < n) (hn : n ≤ 44)
    (q : ∀ H2 x dx oa la ua pa os ls us ps, Same H1 H2 → El A K H2 x dx s ds ra oa la ua pa n k rs os ls us ps → Qa x H2) :
    ∀ x dx, H1 x = none → H1 dx = none → dx ≠ x → sp_Elimination___init__ A K (.ref x :: ([.ref s, .int (k : Int)] ++ [])) (upd (upd H1 dx (.own x)) x (.ins A.C_Elimination dx [])) (fun v H2 => v = .non ∧ Qa x H2) E := by
  intro x dx nx ndx ne
  have s1 : Same H1 (upd (upd H1 dx (.own x)) x (.ins A.C_Elimination dx [])) := fun b o e => by
    rw [upd_ne (ne_of_none e nx), upd_ne (ne_of_none e ndx)]
    exact e
  exact ⟨x, dx, s, ds, ra, n, k, rs, rfl, upd_same, hS.same s1, hG, hr, hd, hk, hn, fun H' oa la ua pa os ls us ps b e => ⟨rfl, q H' x dx oa la ua pa os ls us ps (SBut.same b s1 nx) e⟩⟩
theorem eqAt_of : ∀ (ps : List (Ex × Int)) (i : Int), (∀ q ∈ ps, 0 ≤ q.2) → 0 ≤ i → i < (ps.map (·.2)).sum → ∃ q ∈ ps, ∃ r, 0 ≤ r ∧ r < q.2 ∧ r ≤ i ∧ eqAt ps i = (q.1.1, q.1.2 - r)
  | [], i, _, h0, h1 => by
    change i < 0 at h1
    omega
  | q :: l, i, hp, h0, h1 => by
    rw [eqAt]
    by_cases h : i < q.2
    · rw [if_pos h]
      exact ⟨q, List.mem_cons_self, i, h0, h, Int.le_refl _, rfl⟩
    · rw [if_neg h]
      rw [List.map_cons, List.sum_cons] at h1
      obtain ⟨q', h2, r, h3, h4, h6, h5⟩ := eqAt_of l (i - q.2) (fun q hq => hp q (List.mem_cons_of_mem _ hq)) (by omega) (by omega)
      have := hp q List.mem_cons_self
      exact ⟨q', List.mem_cons_of_mem _ h2, r, h3, h4, by omega, h5⟩
theorem eqAt_ok {n k : Nat} {rs : List Rw} (hG : ∀ r ∈ rs, Gn n r.2) (hd : nD (cts rs) ≤ 100) (hk : k < n) {i : Int} (h0 : 0 ≤ i) (h1 : i < ((pivots k (cts rs)).map (·.2)).sum) (h3 : i ≤ 1000) : (eqAt (pivots k (cts rs)) i).1.length = n ∧ co k (eqAt (pivots k (cts rs)) i) ≠ 0 ∧ Sz 64 (co k (eqAt (pivots k (cts rs)) i)) ∧ ∀ x ∈ (eqAt (pivots k (cts rs)) i).e, Sz 66 x := by
  obtain ⟨q, hq, r, r0, r1, r2, e⟩ := eqAt_of _ i (fun q hq => (piv_ok hG hd hk hq).2.2.2.2.1) h0 h1
  obtain ⟨p1, p2, p3, p4, p5, p6⟩ := piv_ok hG hd hk hq
  rw [e]
  refine ⟨p1, p2, p3, fun x hx => ?_⟩
  rcases List.mem_append.mp hx with h | h
  · exact (p4 x (List.mem_append_left _ h)).mono (by decide)
  · rw [List.mem_singleton.mp h]
    have : q.1.2.natAbs < 2 ^ 64 := p4 q.1.2 (List.mem_append_right _ (List.mem_singleton.mpr rfl))
    show Int.natAbs _ < 2 ^ 66
    have e80 : (2 : Nat) ^ 64 = 18446744073709551616 := by decide
    have e81 : (2 : Nat) ^ 66 = 73786976294838206464 := by decide
    omega
theorem zip_mem {f : Int → Int → Int} {P : Int → Prop} : ∀ {a b : List Int}, (∀ x ∈ a, ∀ y ∈ b, P (f x y)) → ∀ z ∈ List.zipWith f a b, P z
  | [], _, _, z, h => by cases h
  | _ :: _, [], _, z, h => by cases h
  | x :: a, y :: b, H, z, h => by
    rw [List.zipWith_cons_cons] at h
    rcases List.mem_cons.mp h with rfl | h
    · exact H x List.mem_cons_self y List.mem_cons_self
    · exact zip_mem (fun u hu v hv => H u (List.mem_cons_of_mem _ hu) v (List.mem_cons_of_mem _ hv)) z h
theorem wf_of {n : Nat} {t : Ct} (ok : t.k.ok) (len : t.c.length = n) (hn : n ≤ 90) (hc : ∀ x ∈ t.c, Sz 200 x) (hd : Sz 200 t.d) (hk : match t.k with | .div m => Sz 8000 m | _ => True) : Wf n t :=
  ⟨ok, len, by rw [len]; exact hn, fun x hx => by
    rcases List.mem_append.mp hx with h | h
    · exact (hc x h).mono (by decide)
    · rw [List.mem_singleton.mp h]; exact hd.mono (by decide), hk⟩
theorem gd_k {n : Nat} {t : Ct} (g : Gn n t) {b : Nat} (hb : 64 ≤ b) : match t.k with | .div m => Sz b m | _ => True := by
  have := g.ms
  cases hk : t.k with
  | ge => trivial
  | eq => trivial
  | div m => rw [hk] at this; exact Sz.mono this hb
theorem case_wf {n k : Nat} {rs : List Rw} (hG : ∀ r ∈ rs, Gn n r.2) (hd : nD (cts rs) ≤ 100) (hk : k < n) (hn : n ≤ 44) {i : Int} (h0 : 0 ≤ i) (h1 : i < countC k (cts rs)) (hi : i ≤ 1000) : ∀ t ∈ caseRows k (cts rs) i, Wf (n - 1) t := by
  have gt : ∀ t ∈ cts rs, Gn n t := fun t ht => by
    obtain ⟨r, hr, rfl⟩ := List.mem_map.mp ht
    exact hG r hr
  unfold caseRows
  unfold countC at h1
  split
  · intro t ht
    rcases List.mem_append.mp ht with h | h
    · obtain ⟨u, hu, rfl⟩ := List.mem_map.mp h
      have g := gt u (List.mem_filter.mp hu).1
      exact wf_of g.ok (by rw [wo_len (by rw [g.len]; exact hk), g.len]) (by omega) (fun x hx => (g.cs x (wo_mem hx)).mono (by decide)) (g.ds.mono (by decide)) (gd_k g (by decide))
    · obtain ⟨l, hl, hx⟩ := List.mem_flatten.mp h
      obtain ⟨a, ha, rfl⟩ := List.mem_map.mp hl
      obtain ⟨b, hb, rfl⟩ := List.mem_map.mp hx
      obtain ⟨ta, ta1, ta2, ta3, rfl⟩ := low_mem.mp ha
      obtain ⟨tb, tb1, tb2, tb3, rfl⟩ := upp_mem.mp hb
      have ga := gt ta ta1
      have gb := gt tb tb1
      have ca := co_sz ga hk
      have cb := sz_neg (co_sz gb hk)
      have lz : (List.zipWith (· + ·) (tb.ex.1.map (co k ta.ex * ·)) (ta.ex.1.map (- co k tb.ex * ·))).length = n := by
        rw [List.length_zipWith, List.length_map, List.length_map]
        have := ga.len
        have := gb.len
        show min tb.c.length ta.c.length = n
        omega
      refine wf_of trivial ?_ (by omega) (fun x hx => ?_) ?_ trivial
      · show (wo k _).length = n - 1
        rw [wo_len (by rw [lz]; exact hk), lz]
      · refine zip_mem (P := Sz 200) (fun u hu v hv => ?_) x (wo_mem hx)
        obtain ⟨u', hu', rfl⟩ := List.mem_map.mp hu
        obtain ⟨v', hv', rfl⟩ := List.mem_map.mp hv
        exact (Sz.add (Sz.mul ca (gb.cs u' hu')) (Sz.mul cb (ga.cs v' hv'))).mono (by decide)
      · exact (Sz.add (Sz.mul ca gb.ds) (Sz.mul cb ga.ds)).mono (by decide)
  · rename_i r2
    rw [if_neg r2] at h1
    split
    · rename_i r3
      rw [if_pos r3] at h1
      intro t ht
      obtain ⟨u, hu, rfl⟩ := List.mem_map.mp ht
      have g := gt u hu
      have si : Sz 11 i := by
        show Int.natAbs _ < 2048
        omega
      refine wf_of g.ok ?_ (by omega) (fun x hx => (g.cs x (wo_mem hx)).mono (by decide)) ?_ (gd_k g (by decide))
      · show (wo k _).length = n - 1
        rw [wo_len (by rw [g.len]; exact hk), g.len]
      · exact (Sz.add (g.ds.mono (show 64 ≤ 75 by decide)) ((Sz.mul si (co_sz g hk)).mono (by decide))).mono (by decide)
    · rename_i r3
      rw [if_neg r3] at h1
      obtain ⟨y1, y2, y3, y4⟩ := eqAt_ok hG hd hk h0 h1 hi
      generalize eqAt (pivots k (cts rs)) i = y at *
      have ha := Sz.abs y3
      intro t ht
      rcases List.mem_cons.mp ht with rfl | ht
      · refine wf_of ?_ ?_ (by omega) (fun x hx => (y4 x (List.mem_append_left _ (wo_mem hx))).mono (by decide)) ((y4 _ (List.mem_append_right _ (List.mem_singleton.mpr rfl))).mono (by decide)) (ha.mono (by decide))
        · show (1 : Int) ≤ _
          omega
        · show (wo k _).length = n - 1
          rw [wo_len (by rw [y1]; exact hk), y1]
      · obtain ⟨u, hu, rfl⟩ := List.mem_map.mp ht
        have g := gt u hu
        have cu := co_sz g hk
        have hf : Sz 64 (if 0 < co k y then co k u.ex else - co k u.ex) := by
          split
          · exact cu
          · exact sz_neg cu
        refine wf_of ?_ ?_ (by omega) (fun x hx => ?_) ?_ ?_
        · have ok := g.ok
          show (scK _ _).ok
          cases hkd : u.k with
          | ge => trivial
          | eq => trivial
          | div m =>
            rw [hkd] at ok
            show 1 ≤ m * ((co k y).natAbs : Int)
            have h1 : 1 ≤ m := ok
            have h2 := Int.mul_le_mul_of_nonneg_right h1 (show 0 ≤ ((co k y).natAbs : Int) by omega)
            omega
        · show (List.zipWith _ _ _).length = n - 1
          rw [List.length_zipWith, List.length_map, List.length_map, wo_len (by rw [g.len]; exact hk), wo_len (by rw [y1]; exact hk), g.len, y1]
          omega
        · refine zip_mem (P := Sz 200) (fun u' hu' v' hv' => ?_) x hx
          obtain ⟨u1, h1, rfl⟩ := List.mem_map.mp hu'
          obtain ⟨v1, h2, rfl⟩ := List.mem_map.mp hv'
          exact (Sz.sub ((Sz.mul ha ((g.cs u1 (wo_mem h1)).mono (show 64 ≤ 66 by decide)))) (Sz.mul hf (y4 v1 (List.mem_append_left _ (wo_mem h2))))).mono (by decide)
        · exact (Sz.sub (Sz.mul ha (g.ds.mono (show 64 ≤ 66 by decide))) (Sz.mul hf (y4 _ (List.mem_append_right _ (List.mem_singleton.mpr rfl))))).mono (by decide)
        · have ms := gd_k g (show 64 ≤ 100 by decide)
          show match scK ((co k y).natAbs : Int) u.k with | .div m => Sz 8000 m | _ => True
          cases hkd : u.k with
          | ge => trivial
          | eq => trivial
          | div m =>
            rw [hkd] at ms
            exact (Sz.mul (show Sz 100 m from ms) ha).mono (by decide)
theorem flat_le {α β : Type} (f : α → List β) (b : Nat) : ∀ l : List α, (∀ x ∈ l, (f x).length ≤ b) → ((l.map f).flatten).length ≤ l.length * b
  | [], _ => by simp
  | x :: l, h => by
    rw [List.map_cons, List.flatten_cons, List.length_append, List.length_cons, Nat.succ_mul]
    have h1 := h x List.mem_cons_self
    have h2 := flat_le f b l fun y hy => h y (List.mem_cons_of_mem _ hy)
    omega
theorem joined_len (k : Nat) (ts : List Ct) : (joined k ts).length = (othE k ts).length + (uppE k ts).length * (lowE k ts).length := by
  have h : ∀ (l : List Ex) (f : Ex → List Ct) (b : Nat), (∀ x ∈ l, (f x).length = b) → ((l.map f).flatten).length = b * l.length := fun l f b => by
    induction l with
    | nil => intro _; simp
    | cons x l ih =>
      intro h
      rw [List.map_cons, List.flatten_cons, List.length_append, List.length_cons, Nat.mul_succ, ih fun y hy => h y (List.mem_cons_of_mem _ hy), h x List.mem_cons_self]
      omega
  rw [joined, List.length_append, List.length_map, h _ _ (uppE k ts).length fun x _ => by rw [List.length_map]]
theorem case_len {k : Nat} {ts : List Ct} (hr : ts.length ≤ 4200) (hj : rule k ts = 2 → (othE k ts).length + (uppE k ts).length * (lowE k ts).length ≤ 5000) (i : Int) : (caseRows k ts i).length ≤ 5000 := by
  unfold caseRows
  split
  · rename_i h
    rw [joined_len]
    exact hj h
  · split
    · rw [List.length_map]
      omega
    · rw [solved, List.length_cons, List.length_map]
      omega
theorem countC_nn {n k : Nat} {rs : List Rw} (hG : ∀ r ∈ rs, Gn n r.2) (hd : nD (cts rs) ≤ 100) (hk : k < n) : 0 ≤ countC k (cts rs) := by
  have lm := lcm_sz (k := k) hG hd
  unfold countC
  split
  · decide
  · split
    · omega
    · refine sum_nn _ fun z hz => ?_
      obtain ⟨q, hq, rfl⟩ := List.mem_map.mp hz
      exact (piv_ok hG hd hk hq).2.2.2.2.1
theorem El.jn {A : Ad} {K : PySem.W.Frag} {H : Hp} {x dx s ds ra oa la ua pa : Addr} {n k : Nat} {rs os : List Rw} {ls us : List (Addr × Ex)} {ps : List (Addr × (Ex × Int))} (h : El A K H x dx s ds ra oa la ua pa n k rs os ls us ps) : os.length + us.length * ls.length = (othE k (cts rs)).length + (uppE k (cts rs)).length * (lowE k (cts rs)).length := by
  rw [← h.os.2.2, ← h.ls.2.2, ← h.us.2.2, List.length_map, List.length_map, List.length_map]
/-- a system whose rows are known -/
def SyP (A : Ad) (K : PySem.W.Frag) (n : Nat) (H : Hp) (b : Addr) (ts : List Ct) : Prop := ∃ dy rb ss, Sy K A.C_System H b dy rb n ss ∧ cts ss = ts
theorem syp_stay {A : Ad} {K : PySem.W.Frag} {n : Nat} : Stay (SyP A K n) := ⟨fun ⟨dy, rb, ss, h, e⟩ s => ⟨dy, rb, ss, h.same s, e⟩, fun {H D a l l' y} eD ⟨dy, rb, ss, h, e⟩ => ⟨dy, rb, ss, ⟨by rw [upd_ne (ne_of h.ob eD (fun z => by cases z))]; exact h.ob, sqT_upd eD h.rt, fun r hr => ct_stay.lst eD (h.ok r hr)⟩, e⟩⟩
def sp_cases (A : Ad) (K : PySem.W.Frag) : Sp := fun vs H Q _ => ∃ (s ds ra : Addr) (n k : Nat) (rs : List Rw), vs = [.ref s, .int (k : Int)] ∧ Sy K A.C_System H s ds ra n rs ∧ (∀ r ∈ rs, Gn n r.2) ∧ rs.length ≤ 4200 ∧ nD (cts rs) ≤ 100 ∧ k < n ∧ n ≤ 44 ∧ countC k (cts rs) ≤ 900 ∧ (rule k (cts rs) = 2 → (othE k (cts rs)).length + (uppE k (cts rs)).length * (lowE k (cts rs)).length ≤ 5000) ∧
  ∀ H' t bs, Same H H' → SqT K H' t (rsv bs) → RsAll (SyP A K (n - 1)) H' bs → bs.map (·.2) = (List.range (countC k (cts rs)).toNat).map (fun (i : Nat) => rrows (n - 1) [] (caseRows k (cts rs) (i : Int))) → Q (.ref t) H'
def sp_case_count (A : Ad) (K : PySem.W.Frag) : Sp := fun vs H Q _ => ∃ (s ds ra : Addr) (n k : Nat) (rs : List Rw), vs = [.ref s, .int (k : Int)] ∧ Sy K A.C_System H s ds ra n rs ∧ (∀ r ∈ rs, Gn n r.2) ∧ rs.length ≤ 4200 ∧ nD (cts rs) ≤ 100 ∧ k < n ∧ n ≤ 44 ∧ ∀ H', Same H H' → Q (.int (countC k (cts rs))) H'
theorem look_nr {f : Str} {x y : V} (h1 : f ≠ ("variables" : Str)) (h2 : f ≠ ("rows" : Str)) : ([(("variables" : Str), x), ("rows", y)] : List (Str × V)).lookup f = none := by
  simp [List.lookup, beq_eq_false_iff_ne.mpr h1, beq_eq_false_iff_ne.mpr h2]
def sp_Elimination_count_joined (A : Ad) (K : PySem.W.Frag) : Sp := fun vs H Q _ => ∃ (a dx s ds ra oa la ua pa : Addr) (n k : Nat) (rs os : List Rw) (ls us : List (Addr × Ex)) (ps : List (Addr × (Ex × Int))), vs = [.ref a] ∧ El A K H a dx s ds ra oa la ua pa n k rs os ls us ps ∧ ∀ H', Same H H' → Q (.int ((othE k (cts rs)).length + (lowE k (cts rs)).length * (uppE k (cts rs)).length : Nat)) H'
section
variable {w : World} {K : PySem.W.Frag} {mg : Str → Option Value} {base : Heap} {A : Ad}
theorem ok_Elimination_case_at (T : Txt K mg A) : FnOk P w K mg base CX0 7 A.f_Elimination_case_at A.d_Elimination_case_at ["self", "index"] (sp_Elimination_case_at A K) := by
  have G_System_reduced := ok_System_reduced (w := w) (base := base) T
  have G_Elimination_joined_rows := ok_Elimination_joined_rows (w := w) (base := base) T
  have G_Elimination_solved_rows := ok_Elimination_solved_rows (w := w) (base := base) T
  have G_System___init__ := ok_System___init__ (w := w) (base := base) T
  have G_changed := ok_changed (w := w) (base := base) T
  have G_Elimination_equation_at := ok_Elimination_equation_at (w := w) (base := base) T
  have G_Elimination_put_in := ok_Elimination_put_in (w := w) (base := base) T
  refine T.F_Elimination_case_at.ok sc_Elimination_case_at (fun vs H Q E h => ?_) (fun cdv A' outer s H vs Q E hr h => ?_)
  · obtain ⟨a, dx, s, ds, ra, oa, la, ua, pa, n, k, rs, os, ls, us, ps, i, rfl, _⟩ := h
    rfl
  · obtain ⟨a, dx, s, ds, ra, oa, la, ua, pa, n, k, rs, os, ls, us, ps, i, rfl, hE0, i0, i1, i9, hJ, q⟩ := h
    refine ⟨_, (pss_cons (ps_if (pt_cmpR op_eq (pe_fld (pv 0) rfl) pe_int (nomark _)) 
      (pss_one (ps_set (i := 2) sc_Elimination_case_at.nd rfl (Or.inl rfl) (pe_meth0 (pv 0) T.cl_Elimination T.me_Elimination_joined_rows G_Elimination_joined_rows (hr.mono (by decide)) T.B_Elimination_joined_rows .nil pass0))) 
      (pss_one (ps_if (pt_cmpR op_eq (pe_fld (pv 0) rfl) pe_int (nomark _)) 
        (pss_one (ps_setLc (i := 2) (own := [("row", 3)]) (by rfl) sc_Elimination_case_at.nd rfl rfl (sw_true rfl rfl rfl (by decide +kernel)) (pi_tup (pe_fld (pe_fld (pv 0) rfl) rfl)) (blkOk_by (own := [("row", 3)]) (N := ["self", "index", "rows", "row"]) (sc := defScope s_Elimination_case_at) (by decide +kernel)) (fun _ _ _ _ _ => (pg_name (i := 3) sc_Elimination_case_at.nd rfl (Or.inl rfl) (Or.inr rfl))) (fun _ _ _ _ _ => pts_nil) (fun _ _ _ _ _ => (pe_call G_changed (hr.mono (by decide)) (by rfl) T.g_changed T.F_changed.kp T.B_changed .nil pass0 (pa_cons (pv 3) (pa_cons (pe_meth (pv 0) T.cl_Elimination T.me_Elimination_put_in G_Elimination_put_in (hr.mono (by decide)) T.B_Elimination_put_in .nil pass0 (pa_cons (pe_ix (r := rIxT K) ix_tup (pv 3) (pe_un un_neg pe_int) (fun _ _ => rfl)) (pa_cons (pv 1) pa_nil))) pa_nil)))))) 
        (pss_one (ps_set (i := 2) sc_Elimination_case_at.nd rfl (Or.inl rfl) (pe_meth (pv 0) T.cl_Elimination T.me_Elimination_solved_rows G_Elimination_solved_rows (hr.mono (by decide)) T.B_Elimination_solved_rows .nil pass0 (pa_cons (pe_meth (pv 0) T.cl_Elimination T.me_Elimination_equation_at G_Elimination_equation_at (hr.mono (by decide)) T.B_Elimination_equation_at .nil pass0 (pa_cons (pv 1) pa_nil)) pa_nil))))))) 
    (pss_one (ps_ret (pe_meth0 (pe_make T.mk_System G_System___init__ (hr.mono (by decide)) (by rfl) T.gC_System T.B_System___init__ .nil pass0 (pa_cons (pe_op op_sub (pe_fld (pe_fld (pv 0) rfl) rfl) pe_int) (pa_cons (pv 2) pa_nil))) T.cl_System T.me_System_reduced G_System_reduced hr T.B_System_reduced .nil pass0)))), ?_⟩
    walk_at "wp"
    have ob := hE0.ob
    have h40 := hE0.n40
    have hkn := hE0.kn
    refine ⟨A.C_Elimination, dx, _, ob, T.cl_Elimination, T.na_Elimination_rule, _, lf_rule, rfl, ?_⟩
    rw [dec_ii]
    by_cases r2 : rule k (cts rs) = 2
    · rw [if_pos (decide_eq_true (by omega))]
      refine ⟨dx, _, ob, lf_none (by decide +kernel), a, dx, s, ds, ra, oa, la, ua, pa, n, k, rs, os, ls, us, ps, rfl, hE0, hJ r2, fun H1 D zs s1 hL hO ez => ?_⟩
      have ez2 : cts zs = caseRows k (cts rs) i := by rw [ez, caseRows, if_pos r2]
      have E1 := hE0.same s1
      have cz : zs.length ≤ 5000 := by
        rw [← List.length_map (f := (·.2)), show zs.map (·.2) = caseRows k (cts rs) i from ez2]
        exact case_len (by rw [cts, List.length_map]; exact hE0.nr) (fun e => by rw [← hE0.jn]; exact hJ e) i
      have wz : ∀ r ∈ zs, Wf (n - 1) r.2 := fun r hr => case_wf hE0.gd hE0.nd hkn h40 i0 i1 i9 _ (by rw [← show cts zs = caseRows k (cts rs) i from ez2]; exact List.mem_map.mpr ⟨r, hr, rfl⟩)
      refine ⟨A.C_Elimination, dx, _, E1.ob, T.cl_Elimination, T.na_Elimination_system, _, lf_system, s, rfl, A.C_System, ds, _, E1.sy.ob, T.cl_System, T.na_System_variables, _, look_var, _, rfl, ?_⟩
      rw [show (n : Int) - 1 = ((n - 1 : Nat) : Int) by omega]
      exact sys_make (.inl hL) hO wz (by omega) (by omega) fun H2 b db rb s2 sy => ⟨db, _, sy.ob, look_nr (by decide +kernel) (by decide +kernel), b, db, rb, n - 1, zs, rfl, sy, wz, by omega, by omega, fun H3 b' dy rb' ss s3 sy3 er => q H3 b' dy rb' ss (((s1).trans s2).trans s3) sy3 (by rw [er, show cts zs = caseRows k (cts rs) i from ez2])⟩
    · rw [if_neg (by rw [decide_eq_true_eq]; omega)]
      refine ⟨A.C_Elimination, dx, _, ob, T.cl_Elimination, T.na_Elimination_rule, _, lf_rule, rfl, ?_⟩
      rw [dec_ii]
      by_cases r3 : rule k (cts rs) = 3
      · rw [if_pos (decide_eq_true (by omega))]
        have i3 := i1
        rw [countC, if_neg r2, if_pos r3] at i3
        have nr := hE0.nr
        refine ⟨A.C_Elimination, dx, _, ob, T.cl_Elimination, T.na_Elimination_system, _, lf_system, s, rfl, A.C_System, ds, _, hE0.sy.ob, T.cl_System, T.na_System_rows, _, look_rows, ra, rfl, ⟨_, hE0.sy.rt⟩, fun D nD => lc_rs (P := CtT K) ct_stay (walk_tup (xs := rsv rs)) ((rs.map (·.2)).map (putE k i)) nD (by rw [rsv, List.length_map]; omega) (by rw [rsv, List.length_map, List.length_map, List.length_map]) (fun H' s => sameT s hE0.sy.rt) yat_same (fun j x y H1 H2 R hj hy s1 yy kR => ?_) (fun H1 zs s1 e1 hO ez => ?_)⟩
        · obtain ⟨rfl, e⟩ := yat_at yy
          rw [rsv, List.length_map] at hj
          rw [rsv, List.getElem?_map, List.getElem?_eq_getElem hj] at e
          rw [List.getElem?_map, List.getElem?_map, List.getElem?_eq_getElem hj] at hy
          cases e
          cases hy
          have hm := List.getElem_mem hj
          generalize rs[j] = r at *
          have g := hE0.gd r hm
          obtain ⟨ea, c1, c2⟩ := (hE0.sy.ok r hm).same s1
          walk_at "wp"
          refine ⟨dx, _, s1 _ _ ob, lf_none (by decide +kernel), _, c1, _, kv_last, a, dx, s, ds, ra, oa, la, ua, pa, n, k, rs, os, ls, us, ps, ea, r.2.ex, i, rfl, hE0.same s1, c2, g.len, by show Int.natAbs _ < 1152921504606846976; omega, co_sz g hkn, fun H3 t s3 hT => ?_⟩
          exact ⟨r.1, t, r.2, _, rfl, CtT.same ⟨ea, c1, c2⟩ s3, hT, fun H4 z s4 hZ => kR _ z (s3.trans s4) hZ⟩
        · have hL := SqL.of (K := K) e1
          have ez2 : cts zs = caseRows k (cts rs) i := by rw [caseRows, if_neg r2, if_pos r3]; exact ez
          have E1 := hE0.same s1
          have cz : zs.length ≤ 5000 := by
            rw [← List.length_map (f := (·.2)), show zs.map (·.2) = caseRows k (cts rs) i from ez2]
            exact case_len (by rw [cts, List.length_map]; exact hE0.nr) (fun e => by rw [← hE0.jn]; exact hJ e) i
          have wz : ∀ r ∈ zs, Wf (n - 1) r.2 := fun r hr => case_wf hE0.gd hE0.nd hkn h40 i0 i1 i9 _ (by rw [← show cts zs = caseRows k (cts rs) i from ez2]; exact List.mem_map.mpr ⟨r, hr, rfl⟩)
          refine ⟨A.C_Elimination, dx, _, E1.ob, T.cl_Elimination, T.na_Elimination_system, _, lf_system, s, rfl, A.C_System, ds, _, E1.sy.ob, T.cl_System, T.na_System_variables, _, look_var, _, rfl, ?_⟩
          rw [show (n : Int) - 1 = ((n - 1 : Nat) : Int) by omega]
          exact sys_make (.inl hL) hO wz (by omega) (by omega) fun H2 b db rb s2 sy => ⟨db, _, sy.ob, look_nr (by decide +kernel) (by decide +kernel), b, db, rb, n - 1, zs, rfl, sy, wz, by omega, by omega, fun H3 b' dy rb' ss s3 sy3 er => q H3 b' dy rb' ss (((s1).trans s2).trans s3) sy3 (by rw [er, show cts zs = caseRows k (cts rs) i from ez2])⟩
      · rw [if_neg (by rw [decide_eq_true_eq]; omega)]
        have i2 := i1
        rw [countC, if_neg r2, if_neg r3] at i2
        obtain ⟨y1, y2, y3, y4⟩ := eqAt_ok hE0.gd hE0.nd hkn i0 i2 i9
        refine ⟨dx, _, ob, lf_none (by decide +kernel), dx, _, ob, lf_none (by decide +kernel), a, dx, s, ds, ra, oa, la, ua, pa, n, k, rs, os, ls, us, ps, i, rfl, hE0, i0, i2, fun H0 e s0 hT => ?_⟩
        refine ⟨a, dx, s, ds, ra, oa, la, ua, pa, n, k, rs, os, ls, us, ps, e, _, rfl, hE0.same s0, hT, y1, y2, y3, fun x hx => (y4 x hx).mono (by decide), fun H1 D zs s1 hL hO ez => ?_⟩
        have ez2 : cts zs = caseRows k (cts rs) i := by rw [ez, caseRows, if_neg r2, if_neg r3]
        have E1 := hE0.same (s0.trans s1)
        have cz : zs.length ≤ 5000 := by
          rw [← List.length_map (f := (·.2)), show zs.map (·.2) = caseRows k (cts rs) i from ez2]
          exact case_len (by rw [cts, List.length_map]; exact hE0.nr) (fun e => by rw [← hE0.jn]; exact hJ e) i
        have wz : ∀ r ∈ zs, Wf (n - 1) r.2 := fun r hr => case_wf hE0.gd hE0.nd hkn h40 i0 i1 i9 _ (by rw [← show cts zs = caseRows k (cts rs) i from ez2]; exact List.mem_map.mpr ⟨r, hr, rfl⟩)
        refine ⟨A.C_Elimination, dx, _, E1.ob, T.cl_Elimination, T.na_Elimination_system, _, lf_system, s, rfl, A.C_System, ds, _, E1.sy.ob, T.cl_System, T.na_System_variables, _, look_var, _, rfl, ?_⟩
        rw [show (n : Int) - 1 = ((n - 1 : Nat) : Int) by omega]
        exact sys_make (.inl hL) hO wz (by omega) (by omega) fun H2 b db rb s2 sy => ⟨db, _, sy.ob, look_nr (by decide +kernel) (by decide +kernel), b, db, rb, n - 1, zs, rfl, sy, wz, by omega, by omega, fun H3 b' dy rb' ss s3 sy3 er => q H3 b' dy rb' ss (((s0.trans s1).trans s2).trans s3) sy3 (by rw [er, show cts zs = caseRows k (cts rs) i from ez2])⟩
theorem ok_cases (T : Txt K mg A) : FnOk P w K mg base CX0 8 A.f_cases A.d_cases ["system", "k"] (sp_cases A K) := by
  have G_Elimination___init__ := ok_Elimination___init__ (w := w) (base := base) T
  have G_Elimination_case_at := ok_Elimination_case_at (w := w) (base := base) T
  have G_Elimination_count_cases := ok_Elimination_count_cases (w := w) (base := base) T
  refine T.F_cases.ok sc_cases (fun vs H Q E h => ?_) (fun cdv A' outer s H vs Q E hr h => ?_)
  · obtain ⟨s, ds, ra, n, k, rs, rfl, _⟩ := h
    rfl
  · obtain ⟨s, ds, ra, n, k, rs, rfl, hS, hG, hr8, hd, hk, hn, hc, hJ, q⟩ := h
    refine ⟨_, (pss_cons (ps_set (i := 2) sc_cases.nd rfl (Or.inr rfl) (pe_make T.mk_Elimination G_Elimination___init__ (hr.mono (by decide)) (by rfl) T.gC_Elimination T.B_Elimination___init__ .nil pass0 (pa_cons (pv 0) (pa_cons (pv 1) pa_nil)))) 
    (pss_one (ps_ret (pe_callTy call_tuple_of (by rfl) T.b_tuple (by decide +kernel) (pa_cons (pe_lc (own := [("index", 3)]) (by rfl) sc_cases.nd (pi_range1 (by rfl) T.b_range (pa_cons (pe_meth0 (pv 2) T.cl_Elimination T.me_Elimination_count_cases G_Elimination_count_cases (hr.mono (by decide)) T.B_Elimination_count_cases .nil pass0) pa_nil)) (blkOk_by (own := [("index", 3)]) (N := ["system", "k", "elimination", "index"]) (sc := defScope s_cases) (by decide +kernel)) (fun _ _ _ _ _ => (pg_name (i := 3) sc_cases.nd rfl (Or.inl rfl) (Or.inr rfl))) (fun _ _ _ _ _ => pts_nil) (fun _ _ _ _ _ => (pe_meth (pv 2) T.cl_Elimination T.me_Elimination_case_at G_Elimination_case_at hr T.B_Elimination_case_at .nil pass0 (pa_cons (pv 3) pa_nil)))) pa_nil))))), ?_⟩
    walk_at "wp"
    refine el_make hS hG hr8 hd hk hn fun H1 x dx oa la ua pa os ls us ps s1 hE => ?_
    refine ⟨dx, _, hE.ob, lf_none (by decide +kernel), x, dx, s, ds, ra, oa, la, ua, pa, n, k, rs, os, ls, us, ps, rfl, hE, fun H2 s2 => ?_⟩
    have c0 := countC_nn hG hd hk
    have E2 := hE.same s2
    refine ⟨_, rfl, by omega, by omega, fun D nD => lc_rs (P := SyP A K (n - 1)) syp_stay (walk_range0 (n := (countC k (cts rs)).toNat)) ((List.range (countC k (cts rs)).toNat).map fun (i : Nat) => rrows (n - 1) [] (caseRows k (cts rs) (i : Int))) nD (by omega) (by rw [List.length_map, List.length_range]) (fun H' s => trivial) ?_ (fun i x' y H3 H4 R hi hy s3 yy kR => ?_) (fun H3 bs s3 e3 a3 r3 => ?_)⟩
    · rintro i H x H' ⟨rfl, rfl⟩
      exact Same.refl _
    · obtain ⟨rfl, rfl⟩ := yy
      rw [List.getElem?_map, List.getElem?_range hi] at hy
      cases hy
      walk_at "wp"
      refine ⟨dx, _, s3 _ _ E2.ob, lf_none (by decide +kernel), x, dx, s, ds, ra, oa, la, ua, pa, n, k, rs, os, ls, us, ps, (i : Int), rfl, E2.same s3, by omega, by omega, by omega, (fun e => by rw [E2.jn]; exact hJ e), fun H4 b dy rb ss s4 sy4 e4 => kR _ b s4 ⟨dy, rb, ss, sy4, e4⟩⟩
    · have s13 := (s1.trans s2).trans s3
      refine ⟨_, .inl ⟨SqL.of e3, fun t nt => q _ t bs (s13.trans (same_upd nt)) (SqT.of upd_same) (a3.same syp_stay (same_upd nt)) r3⟩⟩
theorem ok_Elimination_count_joined (T : Txt K mg A) : FnOk P w K mg base CX0 1 A.f_Elimination_count_joined A.d_Elimination_count_joined ["self"] (sp_Elimination_count_joined A K) := by
  refine T.F_Elimination_count_joined.ok sc_Elimination_count_joined (fun vs H Q E h => ?_) (fun cdv A' outer s H vs Q E hr h => ?_)
  · obtain ⟨a, dx, s, ds, ra, oa, la, ua, pa, n, k, rs, os, ls, us, ps, rfl, _⟩ := h
    rfl
  · obtain ⟨a, dx, s, ds, ra, oa, la, ua, pa, n, k, rs, os, ls, us, ps, rfl, hE0, q⟩ := h
    refine ⟨_, (pss_one (ps_ret (pe_op op_add (pe_callB call_len_seq (by rfl) T.b_len (by decide +kernel) (pa_cons (pe_fld (pv 0) rfl) pa_nil)) (pe_op op_mulX (pe_callB call_len_seq (by rfl) T.b_len (by decide +kernel) (pa_cons (pe_fld (pv 0) rfl) pa_nil)) (pe_callB call_len_seq (by rfl) T.b_len (by decide +kernel) (pa_cons (pe_fld (pv 0) rfl) pa_nil)))))), ?_⟩
    walk_at "wp"
    have ob := hE0.ob
    have e1 : (rsv os).length = (othE k (cts rs)).length := by rw [← hE0.os.2.2, rsv, List.length_map, List.length_map]
    have e2 : (rsv ls).length = (lowE k (cts rs)).length := by rw [← hE0.ls.2.2, rsv, List.length_map, List.length_map]
    have e3 : (rsv us).length = (uppE k (cts rs)).length := by rw [← hE0.us.2.2, rsv, List.length_map, List.length_map]
    have ln := hE0.ln
    have q' := q _ (Same.refl _)
    have z1 : ∀ {l : List V}, l.length ≤ 4200 → Sz 13 (l.length : Int) := fun {l} h => by
      show Int.natAbs _ < 2 ^ 13
      have : (2 : Nat) ^ 13 = 8192 := by decide
      omega
    refine ⟨A.C_Elimination, dx, _, ob, T.cl_Elimination, T.na_Elimination_others, _, lf_others, oa, rfl, _, .inl hE0.os.1, A.C_Elimination, dx, _, ob, T.cl_Elimination, T.na_Elimination_lowers, _, lf_lowers, la, rfl, _, .inl hE0.ls.1, A.C_Elimination, dx, _, ob, T.cl_Elimination, T.na_Elimination_uppers, _, lf_uppers, ua, rfl, _, .inl hE0.us.1, ⟨13, 13, z1 (by rw [rsv, List.length_map]; exact ln.2.1), z1 (by rw [rsv, List.length_map]; exact ln.2.2), by decide⟩, ?_⟩
    rw [e1, e2, e3]
    rw [Int.natCast_add, Int.natCast_mul] at q'
    exact q'
theorem ok_case_count (T : Txt K mg A) : FnOk P w K mg base CX0 4 A.f_case_count A.d_case_count ["system", "k"] (sp_case_count A K) := by
  have G_Elimination_count_cases := ok_Elimination_count_cases (w := w) (base := base) T
  have G_Elimination___init__ := ok_Elimination___init__ (w := w) (base := base) T
  refine T.F_case_count.ok sc_case_count (fun vs H Q E h => ?_) (fun cdv A' outer s H vs Q E hr h => ?_)
  · obtain ⟨s, ds, ra, n, k, rs, rfl, _⟩ := h
    rfl
  · obtain ⟨s, ds, ra, n, k, rs, rfl, hS, hG, hr8, hd, hk, hn, q⟩ := h
    refine ⟨_, (pss_one (ps_ret (pe_meth0 (pe_make T.mk_Elimination G_Elimination___init__ hr (by rfl) T.gC_Elimination T.B_Elimination___init__ .nil pass0 (pa_cons (pv 0) (pa_cons (pv 1) pa_nil))) T.cl_Elimination T.me_Elimination_count_cases G_Elimination_count_cases (hr.mono (by decide)) T.B_Elimination_count_cases .nil pass0))), ?_⟩
    walk_at "wp"
    refine el_make hS hG hr8 hd hk hn fun H1 x dx oa la ua pa os ls us ps s1 hE => ?_
    exact ⟨dx, _, hE.ob, lf_none (by decide +kernel), x, dx, s, ds, ra, oa, la, ua, pa, n, k, rs, os, ls, us, ps, rfl, hE, fun H2 s2 => q _ (s1.trans s2)⟩
end
local macro_rules | `(tactic| walk_at "wp") => `(tactic| simp only [tSeq, tCKw, tAsg, tPar, gName, gTup, gCons, gNil, tVar, tC, tOp, tUn, rI, rI0, rU, tCB, tCons, tNil, tIfS, tRet, tRetN, tNext, tNever, test_eq, tB, tTup, tLst, tCall, tCallS, tCallLS, tMakeS, tAddS, tChain, rNotInO, rInO, iEnumT, iEnum, rIsnotB, rIsB, iZipM, tMkO, tIf, tAndV, tOrV, tNotV, tNot, tAnd, tOr, rEq, rNe, scal_ii, scal_ss, scal_bb, dec_ii, dec_ss, dec_bb, for_eq, lc_eq, lc2_eq, while_eq, tDrop, tYes, iList, iTup, iOr, tDNewN, tNSet, rNSet, sFld, tFld, tMake, tProp, tMeth, cxP, cxW, iStr, iRng1, iRng2, RZ.iZipA, L2.start, rIxL, rIxT, rIxS, rSlS, cxK, tSl, tPart, tNoPart, tBM, tBM0, rAppend, rExtend, rRepS, rGcd, s_ge_eq, s_ge_div, s_eq_ge, s_eq_div, s_div_ge, s_div_eq, gSub, rSetL, tAug, ipI, rAdd, rSub, tM1, tM0,
  List.map_cons, List.map_nil, List.length_cons, List.length_nil, List.cons_append, List.nil_append, List.append_nil, List.getElem?_cons_succ, List.getElem?_cons_zero, List.set_cons_succ, List.set_cons_zero, Nat.reduceAdd, Nat.reduceSub, List.replicate_succ, List.replicate_zero, wipe,
  Option.some.injEq, V.int.injEq, V.str.injEq, sgn_eq, V.ref.injEq, V.bl.injEq, exists_eq_left, exists_eq_left', exists_and_left, exists_eq_right, List.cons.injEq, and_true, true_and, ex_bl, ex_int, exists_const, Nat.zero_add, Int.toNat_natCast, Int.zero_add, and_assoc, reduceCtorEq, false_and, and_false, exists_false, or_false, false_or, eq_self, decide_true, decide_false, ite_true, ite_false, if_true, if_false, Bool.false_eq_true, Bool.not_true, Bool.not_false, ↓reduceIte])
/-! ### the sum of constraints -/
def Kd.s : Kd → Str
  | .ge => "ge"
  | .eq => "eq"
  | .div _ => "div"
theorem kv_s (k : Kd) (a : Addr) : atI (k.v a) 0 = some (.str k.s) := by cases k <;> rfl
def mulOk : Kd → Int → Bool
  | .ge, m => decide (0 ≤ m)
  | .eq, _ => true
  | .div _, m => decide (m = 0)
def areM (ts : List Ct) (ms : List Int) : Bool := decide (ms.length ≤ ts.length) && (ts.zip ms).all fun q => mulOk q.1.k q.2
def totL (z : List Int) (ps : List (Int × Ct)) : List Int := ps.foldl (fun a q => addL a (q.2.e.map (q.1 * ·))) z
theorem totL_len {n : Nat} : ∀ (ps : List (Int × Ct)) (z : List Int), z.length = n + 1 → (∀ q ∈ ps, q.2.c.length = n) → (totL z ps).length = n + 1
  | [], z, h, _ => h
  | q :: r, z, h, k => by
    refine totL_len r _ ?_ fun x hx => k x (List.mem_cons_of_mem _ hx)
    have := k q List.mem_cons_self
    show (addL z (q.2.e.map (q.1 * ·))).length = n + 1
    rw [addL, List.length_zipWith, List.length_map, h, Ct.e, List.length_append, this]
    simp
theorem totL_take {z : List Int} {ps : List (Int × Ct)} {i : Nat} (h : i < ps.length) : totL z (ps.take (i + 1)) = addL (totL z (ps.take i)) ((ps[i]).2.e.map ((ps[i]).1 * ·)) := by
  rw [List.take_succ_eq_append_getElem h, totL, List.foldl_append]
  rfl
/-- all numbers of a list are at most so great -/
def Bd (b : Nat) (l : List Int) : Prop := ∀ x ∈ l, x.natAbs ≤ b
theorem addL_bd {a b : Nat} : ∀ {xs ys : List Int}, Bd a xs → Bd b ys → Bd (a + b) (addL xs ys)
  | [], _, _, _ => fun x hx => by simp [addL] at hx
  | _ :: _, [], _, _ => fun x hx => by simp [addL] at hx
  | x :: xs, y :: ys, h, k => fun z hz => by
    rw [addL, List.zipWith_cons_cons] at hz
    rcases List.mem_cons.mp hz with rfl | hz
    · have h1 := h x List.mem_cons_self
      have h2 := k y List.mem_cons_self
      omega
    · exact addL_bd (fun w hw => h w (List.mem_cons_of_mem _ hw)) (fun w hw => k w (List.mem_cons_of_mem _ hw)) z hz
theorem mul_bd {a b : Nat} {m : Int} {xs : List Int} (hm : m.natAbs ≤ a) (h : Bd b xs) : Bd (a * b) (xs.map (m * ·)) := fun z hz => by
  obtain ⟨x, hx, rfl⟩ := List.mem_map.mp hz
  rw [Int.natAbs_mul]
  exact Nat.mul_le_mul hm (h x hx)
/-- the sum divided, if it may be taken -/
def sumOf (n : Nat) (ts : List Ct) (ms : List Int) (d : Int) : Option Ct :=
  if areM ts ms = true ∧ 1 ≤ d then
    if ((totL (List.replicate (n + 1) 0) (ms.zip ts)).take n).any (fun x => decide (x % d ≠ 0)) = true then none
    else some ⟨.ge, ((totL (List.replicate (n + 1) 0) (ms.zip ts)).take n).map (· / d), (totL (List.replicate (n + 1) 0) (ms.zip ts)).getD n 0 / d⟩
  else none
theorem take_get {n : Nat} {l : List Int} (h : l.length = n + 1) : l = l.take n ++ [l.getD n 0] := by
  conv => lhs; rw [← List.take_append_drop n l]
  congr 1
  rw [List.drop_eq_getElem_cons (by omega), List.drop_eq_nil_of_le (by omega), List.getD_eq_getElem?_getD, List.getElem?_eq_getElem (by omega)]
  rfl
def sp_is_multiplier (K : PySem.W.Frag) : Sp := fun vs H Q _ => ∃ (k : Kd) (m : Int), vs = [.str k.s, .int m] ∧ Q (.bl (mulOk k m)) H
def sp_System_weight (A : Ad) (K : PySem.W.Frag) : Sp := fun vs H Q _ => ∃ (a dx ra : Addr) (n : Nat) (rs : List Rw), vs = [.ref a] ∧ Sy K A.C_System H a dx ra n rs ∧ Q (.int ((rs.length : Int) + 1)) H
def sp_System___add__ (A : Ad) (K : PySem.W.Frag) : Sp := fun vs H Q _ => ∃ (a dx ra x : Addr) (n : Nat) (rs : List Rw) (t : Ct), vs = [.ref a, .ref x] ∧ Sy K A.C_System H a dx ra n rs ∧ CtT K H x t ∧ (∀ r ∈ rs, Wf n r.2) ∧ Wf n t ∧ n ≤ 90 ∧ rs.length ≤ 5000 ∧
  ∀ H' b dy rb, Same H H' → Sy K A.C_System H' b dy rb n ((x, t) :: rs) → Q (.ref b) H'
def sp_are_multipliers (A : Ad) (K : PySem.W.Frag) : Sp := fun vs H Q _ => ∃ (a dx ra ma : Addr) (n : Nat) (rs : List Rw) (ms : List Int), vs = [.ref a, .ref ma] ∧ Sy K A.C_System H a dx ra n rs ∧ SqT K H ma (ms.map V.int) ∧ rs.length ≤ 6000 ∧ ms.length ≤ 6000 ∧
  ∀ H', Same H H' → Q (.bl (areM (cts rs) ms)) H'
def sp_added (A : Ad) (K : PySem.W.Frag) : Sp := fun vs H Q _ => ∃ (a dx ra ma : Addr) (n : Nat) (rs : List Rw) (ms : List Int) (d : Int), vs = [.ref a, .ref ma, .int d] ∧ Sy K A.C_System H a dx ra n rs ∧ SqT K H ma (ms.map V.int) ∧ (∀ r ∈ rs, Wf n r.2) ∧ (∀ r ∈ rs, ∀ x ∈ r.2.e, Sz 100 x) ∧ n ≤ 90 ∧ rs.length ≤ 5000 ∧ ms.length ≤ 5000 ∧ (∀ m ∈ ms, Sz 100 m) ∧ Sz 100 d ∧
  (sumOf n (cts rs) ms d = none → ∀ H', Same H H' → Q .non H') ∧
  ∀ t, sumOf n (cts rs) ms d = some t → ∀ H' p b dy rb x, Same H H' → SqT K H' p [.ref b] → Sy K A.C_System H' b dy rb n ((x, t) :: rs) → Q (.ref p) H'
theorem totL_bd {B : Nat} : ∀ (ps : List (Int × Ct)) (z : List Int) (b : Nat), Bd b z → (∀ q ∈ ps, Bd B (q.2.e.map (q.1 * ·))) → Bd (b + ps.length * B) (totL z ps)
  | [], z, b, h, _ => fun x hx => by
    have := h x hx
    omega
  | q :: r, z, b, h, k => fun x hx => by
    have h1 := totL_bd r (addL z (q.2.e.map (q.1 * ·))) (b + B) (addL_bd h (k q List.mem_cons_self)) (fun y hy => k y (List.mem_cons_of_mem _ hy)) x hx
    rw [List.length_cons, Nat.add_mul, Nat.one_mul]
    omega
theorem totL_sz {n : Nat} {ps : List (Int × Ct)} (hl : ps.length ≤ 5000) (h : ∀ q ∈ ps, Sz 100 q.1 ∧ ∀ x ∈ q.2.e, Sz 100 x) : ∀ x ∈ totL (List.replicate (n + 1) 0) ps, Sz 300 x := fun x hx => by
  have h1 := totL_bd (B := 2 ^ 100 * 2 ^ 100) ps (List.replicate (n + 1) 0) 0 (fun y hy => by rw [(List.mem_replicate.mp hy).2]; decide) (fun q hq => mul_bd (Nat.le_of_lt (h q hq).1) fun y hy => Nat.le_of_lt ((h q hq).2 y hy)) x hx
  have h2 : 0 + ps.length * (2 ^ 100 * 2 ^ 100) ≤ 5000 * (2 ^ 100 * 2 ^ 100) := by rw [Nat.zero_add]; exact Nat.mul_le_mul_right _ hl
  exact Nat.lt_of_le_of_lt (Nat.le_trans h1 h2) (by decide +kernel)
theorem look_no {x y : V} {m : Str} (h1 : (m == ("variables" : Str)) = false) (h2 : (m == ("rows" : Str)) = false) : ([(("variables" : Str), x), ("rows", y)] : List (Str × V)).lookup m = none := by simp [List.lookup, h1, h2]
theorem red0 {t : Ct} (h : t.c = []) : red t = none ∨ red t = some (imp 0) := by
  obtain ⟨k, c, d⟩ := t
  obtain rfl : c = [] := h
  cases k with
  | ge =>
    simp only [red]
    rw [show gl 0 [] = 0 from rfl, if_neg (by decide)]
    split
    · exact .inl rfl
    · exact .inr rfl
  | eq =>
    simp only [red]
    rw [show gl 0 [] = 0 from rfl]
    split
    · exact .inl rfl
    · rw [if_pos (.inl rfl)]
      exact .inr rfl
  | div m =>
    simp only [red, List.map_nil]
    rw [show gl m.toNat [] = m.toNat from rfl]
    split
    · exact .inr rfl
    · rw [if_pos rfl]
      exact .inl rfl
theorem rrows0 : ∀ ts : List Ct, (∀ t ∈ ts, t.c = []) → rrows 0 [] ts = [imp 0] ∨ rrows 0 [] ts = []
  | [], _ => .inr rfl
  | t :: r, h => by
    rw [rrows]
    rcases red0 (h t List.mem_cons_self) with e | e
    · rw [e]
      exact rrows0 r fun x hx => h x (List.mem_cons_of_mem _ hx)
    · rw [e]
      exact .inl (if_pos rfl)
/-- reduced to the impossible constraint: no point -/
theorem closed_no {n : Nat} {ts : List Ct} {p : List Int} (ok : ∀ t ∈ ts, t.k.ok) (h : rrows n [] ts = [imp n]) : ts.all (·.at_ p) = false := by
  have e := rrows_all n p ts [] ok
  rw [h] at e
  simpa [imp_at] using e.symm
theorem closed_iff0 {ts : List Ct} (ok : ∀ t ∈ ts, t.k.ok) (h : ∀ t ∈ ts, t.c = []) : decide (rrows 0 [] ts = [imp 0]) = !ts.all (·.at_ []) := by
  rcases rrows0 ts h with e | e
  · rw [e, closed_no ok e]
    simp
  · have h1 := rrows_all 0 [] ts [] ok
    rw [e] at h1
    rw [e, show ts.all (·.at_ []) = true by simpa using h1.symm]
    rfl
def opp (c : List Int) (d : Int) : Ct := ⟨.ge, c.map (-1 * ·), -1 * d + -1⟩
def SplitQ (C : Addr) (K : PySem.W.Frag) (n : Nat) (rs : List Rw) (H : Hp) (xs : List Int) (Q : VK) : Prop :=
  (xs.length ≠ n + 1 → ∀ H', Same H H' → Q .non H') ∧
  ∀ c d, xs = c ++ [d] → c.length = n → ∀ H' p b1 d1 r1 x1 b2 d2 r2 x2, Same H H' → SqT K H' p [.ref b1, .ref b2] → Sy K C H' b1 d1 r1 n ((x1, ⟨.ge, c, d⟩) :: rs) → Sy K C H' b2 d2 r2 n ((x2, opp c d) :: rs) → Q (.ref p) H'
def sp_split_by (A : Ad) (K : PySem.W.Frag) : Sp := fun vs H Q _ => ∃ (a dx ra ea : Addr) (n : Nat) (rs : List Rw) (xs : List Int), vs = [.ref a, .ref ea] ∧ Sy K A.C_System H a dx ra n rs ∧ (∀ r ∈ rs, Wf n r.2) ∧ n ≤ 90 ∧ rs.length ≤ 5000 ∧ SqT K H ea (xs.map V.int) ∧ xs.length ≤ 100 ∧ (∀ x ∈ xs, Sz 100 x) ∧ SplitQ A.C_System K n rs H xs Q
def sp_closed (A : Ad) (K : PySem.W.Frag) : Sp := fun vs H Q _ => ∃ (a dx ra : Addr) (n : Nat) (rs : List Rw), vs = [.ref a] ∧ Sy K A.C_System H a dx ra n rs ∧ (∀ r ∈ rs, Wf n r.2) ∧ n ≤ 90 ∧ rs.length ≤ 5000 ∧
  (rrows n [] (cts rs) = [imp n] → ∀ H' p, Same H H' → SqT K H' p [] → Q (.ref p) H') ∧ (rrows n [] (cts rs) ≠ [imp n] → ∀ H', Same H H' → Q .non H')
section
variable {w : World} {K : PySem.W.Frag} {mg : Str → Option Value} {base : Heap} {A : Ad}
theorem ok_is_multiplier (T : Txt K mg A) : FnOk P w K mg base CX0 2 A.f_is_multiplier A.d_is_multiplier ["kind", "multiplier"] (sp_is_multiplier K) := by
  have G_is_integer := ok_is_integer (w := w) (base := base) T
  refine T.F_is_multiplier.ok sc_is_multiplier (fun vs H Q E h => ?_) (fun cdv A' outer s H vs Q E hr h => ?_)
  · obtain ⟨k, m, rfl, _⟩ := h
    rfl
  · obtain ⟨k, m, rfl, q⟩ := h
    refine ⟨_, (pss_cons (ps_if (pt_not (pt_val (pe_call G_is_integer hr (by rfl) T.g_is_integer T.F_is_integer.kp T.B_is_integer .nil pass0 (pa_cons (pv 1) pa_nil)))) 
      (pss_one (ps_ret pe_bl)) pss_nil) 
    (pss_cons (ps_if (pt_cmpR op_eq (pv 0) pe_str (nomark _)) 
      (pss_one (ps_ret (pe_cmpR op_ge (pv 1) pe_int (nomark _)))) pss_nil) 
    (pss_one (ps_ret (pe_or (pe_cmpR op_eq (pv 0) pe_str (nomark _)) (pe_one (pe_cmpR op_eq (pv 1) pe_int (nomark _)))))))), ?_⟩
    walk_at "wp"
    refine ⟨m, rfl, true, rfl, ?_⟩
    walk_at "wp"
    cases k with
    | ge =>
      simp only [Kd.s, mulOk] at q ⊢
      walk_at "wp"
      exact q
    | eq =>
      simp only [Kd.s, mulOk, s_eq_ge] at q ⊢
      walk_at "wp"
      exact q
    | div d =>
      simp only [Kd.s, mulOk, s_div_ge, s_div_eq] at q ⊢
      walk_at "wp"
      exact q
theorem ok_System_weight (T : Txt K mg A) : FnOk P w K mg base CX0 1 A.f_System_weight A.d_System_weight ["self"] (sp_System_weight A K) := by
  refine T.F_System_weight.ok sc_System_weight (fun vs H Q E h => ?_) (fun cdv A' outer s H vs Q E hr h => ?_)
  · obtain ⟨a, dx, ra, n, rs, rfl, _⟩ := h
    rfl
  · obtain ⟨a, dx, ra, n, rs, rfl, sy, q⟩ := h
    refine ⟨_, (pss_one (ps_ret (pe_op op_add (pe_callB call_len_seq (by rfl) T.b_len (by decide +kernel) (pa_cons (pe_fld (pv 0) rfl) pa_nil)) pe_int))), ?_⟩
    walk_at "wp"
    refine ⟨A.C_System, dx, _, sy.ob, T.cl_System, T.na_System_rows, _, look_rows, ra, rfl, _, .inr sy.rt, ?_⟩
    rw [rv, List.length_map]
    exact q
theorem ok_System___add__ (T : Txt K mg A) : FnOk P w K mg base CX0 6 A.f_System___add__ A.d_System___add__ ["self", "other"] (sp_System___add__ A K) := by
  have G_System___init__ := ok_System___init__ (w := w) (base := base) T
  refine T.F_System___add__.ok sc_System___add__ (fun vs H Q E h => ?_) (fun cdv A' outer s H vs Q E hr h => ?_)
  · obtain ⟨a, dx, ra, x, n, rs, t, rfl, _⟩ := h
    rfl
  · obtain ⟨a, dx, ra, x, n, rs, t, rfl, sy, hT, hW, wt, hn, hr9, q⟩ := h
    refine ⟨_, (pss_one (ps_ret (pe_make T.mk_System G_System___init__ hr (by rfl) T.gC_System T.B_System___init__ .nil pass0 (pa_cons (pe_fld (pv 0) rfl) (pa_cons (pe_op op_catA (pe_tup (pa_cons (pv 1) pa_nil)) (pe_fld (pv 0) rfl)) pa_nil))))), ?_⟩
    walk_at "wp"
    refine ⟨A.C_System, dx, _, sy.ob, T.cl_System, T.na_System_variables, _, look_var, ?_⟩
    refine ⟨by decide, fun p1 n1 => ⟨A.C_System, dx, _, (same_upd n1) _ _ sy.ob, T.cl_System, T.na_System_rows, _, look_rows, ?_⟩⟩
    refine cat_sm (xs := [.ref x]) (SqT.of upd_same) (sameT (same_upd n1) sy.rt) (by rw [rv, List.length_map]; simp; omega) fun H2 p2 s2 h2 => ?_
    have s12 := (same_upd (o := .tup [V.ref x]) n1).trans s2
    exact sys_make (A := A) (rs := (x, t) :: rs) (.inr h2) (fun r hr => by
      rcases List.mem_cons.mp hr with rfl | hr
      · exact hT.same s12
      · exact (sy.ok r hr).same s12) (fun r hr => by
      rcases List.mem_cons.mp hr with rfl | hr
      · exact wt
      · exact hW r hr) hn (by simp only [List.length_cons]; omega) fun H3 b dy rb s3 sb => q _ b dy rb (s12.trans s3) sb
theorem ok_are_multipliers (T : Txt K mg A) : FnOk P w K mg base CX0 3 A.f_are_multipliers A.d_are_multipliers ["system", "multipliers"] (sp_are_multipliers A K) := by
  have G_is_multiplier := ok_is_multiplier (w := w) (base := base) T
  refine T.F_are_multipliers.ok sc_are_multipliers (fun vs H Q E h => ?_) (fun cdv A' outer s H vs Q E hr h => ?_)
  · obtain ⟨a, dx, ra, ma, n, rs, ms, rfl, _⟩ := h
    rfl
  · obtain ⟨a, dx, ra, ma, n, rs, ms, rfl, sy, hM, hr9, hm9, q⟩ := h
    refine ⟨_, (pss_cons (ps_if (PW.pt (pw_or (pt_not (pt_val (pe_callB call_isi (by rfl) T.b_isinstance (by decide +kernel) (pa_cons (pv 1) (pa_cons (pe_bltn (v := .ty "tuple") (by rfl) T.b_tuple (by decide +kernel) rfl) pa_nil))))) (pw_or1 (pt_cmpR op_gt (pe_callB call_len_seq (by rfl) T.b_len (by decide +kernel) (pa_cons (pv 1) pa_nil)) (pe_callB call_len_seq (by rfl) T.b_len (by decide +kernel) (pa_cons (pe_fld (pv 0) rfl) pa_nil)) (nomark _))))) 
      (pss_one (ps_ret pe_bl)) pss_nil) 
    (pss_one (ps_ret (pe_callB (cr_all rfl) (by rfl) T.b_all (by decide +kernel) (pa_cons (pe_lc (own := [("row", 2), ("multiplier", 3)]) (g := (gTup K 2 (gCons (gName 2) (gCons (gName 3) gNil)))) (by rfl) sc_are_multipliers.nd (RZ.pi_zipA (by rfl) T.b_zip (pa_cons (pe_fld (pv 0) rfl) (pa_cons (pv 1) pa_nil))) (blkOk_by (own := [("row", 2), ("multiplier", 3)]) (N := ["system", "multipliers", "row", "multiplier"]) (sc := defScope s_are_multipliers) (by decide +kernel)) (fun _ _ _ _ _ => (pg_tup rfl (pgs_cons (pg_name (i := 2) sc_are_multipliers.nd rfl (Or.inl rfl) (Or.inr rfl)) (pgs_cons (pg_name (i := 3) sc_are_multipliers.nd rfl (Or.inl rfl) (Or.inr rfl)) pgs_nil)))) (fun _ _ _ _ _ => pts_nil) (fun _ _ _ _ _ => (pe_call G_is_multiplier hr (by rfl) T.g_is_multiplier T.F_is_multiplier.kp T.B_is_multiplier .nil pass0 (pa_cons (pe_ix (r := rIxT K) ix_tup (pv 2) pe_int (fun _ _ => rfl)) (pa_cons (pv 3) pa_nil))))) pa_nil))))), ?_⟩
    walk_at "wp"
    refine isi (ty_tup hM) (r := true) (by decide +kernel) ⟨true, rfl, ?_⟩
    walk_at "wp"
    refine ⟨_, .inr hM, A.C_System, dx, _, sy.ob, T.cl_System, T.na_System_rows, _, look_rows, ra, rfl, _, .inr sy.rt, ?_⟩
    have lr : (rv rs).length = (cts rs).length := by rw [rv, cts, List.length_map, List.length_map]
    have lm : (ms.map V.int).length = ms.length := List.length_map ..
    have lc : (cts rs).length = rs.length := by rw [cts, List.length_map]
    by_cases hl : ms.length ≤ (cts rs).length
    · rw [if_neg (by rw [decide_eq_true_eq, lr, lm]; omega)]
      refine ⟨A.C_System, dx, _, sy.ob, T.cl_System, T.na_System_rows, _, look_rows, ra, rfl, _, _, .inr ⟨sy.rt, hM, fun D hD => ?_⟩⟩
      refine lc_ys (walk_zipT (xs := rv rs) (ys := ms.map V.int) (n := ms.length) (by rw [lr, lm]; omega)) (((cts rs).zip ms).map fun z => V.bl (mulOk z.1.k z.2)) hD (by omega) (by rw [List.length_map, List.length_zip]; omega) (fun H' s' => ⟨sameT s' sy.rt, sameT s' hM⟩) ypair_same (fun i x y H1 H2 R hi hy s1 yy k => ?_) (fun H' s' e => ?_)
      · obtain ⟨t, x, z, rfl, nt, rfl, e1, e2⟩ := yy
        have hi' : i < rs.length := by omega
        have hz : i < ((cts rs).zip ms).length := by rw [List.length_zip]; omega
        rw [List.getElem?_map, List.getElem?_eq_getElem hz, List.getElem_zip] at hy
        dsimp only at e1 e2
        rw [rv, List.getElem?_map, List.getElem?_eq_getElem hi'] at e1
        rw [List.getElem?_map, List.getElem?_eq_getElem hi] at e2
        cases e1
        cases e2
        cases hy
        have hmem : rs[i] ∈ rs := List.getElem_mem hi'
        walk_at "wp"
        refine ⟨_, .inl (.inl upd_same), ?_⟩
        walk_at "wp"
        obtain ⟨b, h1, h2⟩ := sy.ok _ hmem
        refine ⟨_, sameT s1 h1, _, kv_s _ _, _, _, rfl, ?_⟩
        have ec : (cts rs)[i] = rs[i].2 := by simp [cts]
        rw [ec] at k
        exact k _ (Same.refl _)
      · refine ⟨D, ((cts rs).zip ms).map fun z => mulOk z.1.k z.2, rfl, ?_, ?_⟩
        · rw [List.map_map]
          exact SqL.of e
        · have ea : (((cts rs).zip ms).map fun z => mulOk z.1.k z.2).all id = areM (cts rs) ms := by
            rw [areM, decide_eq_true hl, Bool.true_and, List.all_map]
            rfl
          rw [ea]
          exact q _ s'
    · rw [if_pos (by rw [decide_eq_true_eq, lr, lm]; omega)]
      have ea : areM (cts rs) ms = false := by rw [areM, decide_eq_false hl, Bool.false_and]
      rw [ea] at q
      exact q _ (Same.refl _)
theorem ok_added (T : Txt K mg A) : FnOk P w K mg base CX0 8 A.f_added A.d_added ["system", "multipliers", "divisor"] (sp_added A K) := by
  have G_add := ok_add (w := w) (base := base) T
  have G_System___add__ := ok_System___add__ (w := w) (base := base) T
  have G_are_multipliers := ok_are_multipliers (w := w) (base := base) T
  have G_is_integer := ok_is_integer (w := w) (base := base) T
  have G_multiply := ok_multiply (w := w) (base := base) T
  have G_divided := ok_divided (w := w) (base := base) T
  refine T.F_added.ok sc_added (fun vs H Q E h => ?_) (fun cdv A' outer s H vs Q E hr h => ?_)
  · obtain ⟨a, dx, ra, ma, n, rs, ms, d, rfl, _⟩ := h
    rfl
  · obtain ⟨a, dx, ra, ma, n, rs, ms, d, rfl, sy, hM, hW, hz, hn, hr9, hm9, hmz, hdz, qn, qs⟩ := h
    refine ⟨_, (pss_cons (ps_if (PW.pt (pw_or (pt_not (pt_val (pe_call G_are_multipliers (hr.mono (by decide)) (by rfl) T.g_are_multipliers T.F_are_multipliers.kp T.B_are_multipliers .nil pass0 (pa_cons (pv 0) (pa_cons (pv 1) pa_nil))))) (pw_or (pt_not (pt_val (pe_call G_is_integer (hr.mono (by decide)) (by rfl) T.g_is_integer T.F_is_integer.kp T.B_is_integer .nil pass0 (pa_cons (pv 2) pa_nil)))) (pw_or1 (pt_cmpR op_lt (pv 2) pe_int (nomark _)))))) 
      (pss_one (ps_ret pe_non)) pss_nil) 
    (pss_cons (ps_set (i := 3) sc_added.nd rfl (Or.inl rfl) (pe_op op_repA (pe_tup (pa_cons pe_int pa_nil)) (pe_op op_add (pe_fld (pv 0) rfl) pe_int))) 
    (pss_cons (ps_for PassesOwn.never rfl (RZ.pi_zipA (by rfl) T.b_zip (pa_cons (pv 1) (pa_cons (pe_fld (pv 0) rfl) pa_nil))) (pg_tup rfl (pgs_cons (pg_name (i := 4) sc_added.nd rfl (Or.inl rfl)) (pgs_cons (pg_name (i := 5) sc_added.nd rfl (Or.inl rfl)) pgs_nil))) 
      (pss_one (ps_set (i := 3) sc_added.nd rfl (Or.inl rfl) (pe_call G_add (hr.mono (by decide)) (by rfl) T.g_add T.F_add.kp T.B_add .nil pass0 (pa_cons (pv 3) (pa_cons (pe_call G_multiply (hr.mono (by decide)) (by rfl) T.g_multiply T.F_multiply.kp T.B_multiply .nil pass0 (pa_cons (pv 4) (pa_cons (pe_ix ix_tup (pv 5) (pe_un un_neg pe_int) (fun _ _ => rfl)) pa_nil))) pa_nil)))))) 
    (pss_cons (ps_if (pt_val (pe_callB (cr_any rfl) (by rfl) T.b_any (by decide +kernel) (pa_cons (pe_lc (own := [("number", 6)]) (by rfl) sc_added.nd (pi_tup (pe_slice sl_tupA (pv 3) po_none (po_some (pe_un un_neg pe_int)))) (blkOk_by (own := [("number", 6)]) (N := ["system", "multipliers", "divisor", "total", "multiplier", "row", "number"]) (sc := defScope s_added) (by decide +kernel)) (fun _ _ _ _ _ => (pg_name (i := 6) sc_added.nd rfl (Or.inl rfl) (Or.inr rfl))) (fun _ _ _ _ _ => pts_nil) (fun _ _ _ _ _ => (pe_cmpR op_ne (pe_op op_mod (pv 6) (pv 2)) pe_int (nomark _)))) pa_nil))) 
      (pss_one (ps_ret pe_non)) pss_nil) 
    (pss_one (ps_ret (pe_tup (pa_cons (pe_op (op_addO T.ad_System G_System___add__ (hr.mono (by decide)) T.B_System___add__ pass0) (pv 0) (pe_tup (pa_cons pe_str (pa_cons (pe_call G_divided (hr.mono (by decide)) (by rfl) T.g_divided T.F_divided.kp T.B_divided .nil pass0 (pa_cons (pv 3) (pa_cons (pv 2) pa_nil))) pa_nil)))) pa_nil)))))))), ?_⟩
    walk_at "wp"
    refine ⟨a, dx, ra, ma, n, rs, ms, rfl, sy, hM, by omega, by omega, fun H1 s1 => ⟨areM (cts rs) ms, rfl, ?_⟩⟩
    have sy1 := sy.same s1
    have hM1 := sameT s1 hM
    cases hA : areM (cts rs) ms with
    | false =>
      walk_at "wp"
      exact qn (by rw [sumOf, if_neg (by rw [hA]; simp)]) _ s1
    | true =>
      walk_at "wp"
      refine ⟨d, rfl, true, rfl, ?_⟩
      walk_at "wp"
      by_cases hd : d < 1
      · rw [if_pos (decide_eq_true hd)]
        exact qn (by rw [sumOf, if_neg (fun z => by omega)]) _ s1
      · rw [if_neg (by rw [decide_eq_true_eq]; exact hd)]
        have hd1 : 1 ≤ d := by omega
        refine ⟨by decide, fun p1 n1 => ⟨A.C_System, dx, _, (same_upd n1) _ _ sy1.ob, T.cl_System, T.na_System_variables, _, look_var, (n : Int), rfl, ?_⟩⟩
        refine ⟨p1, n + 1, [V.int 0], rfl, by rw [Int.natCast_add]; rfl, SqT.of upd_same, by simp, by omega, by simp, fun H2 ta s2 h2 => ?_⟩
        have s12 := (s1.trans (same_upd (o := .tup [V.int 0]) n1)).trans s2
        have sy2 := sy.same s12
        have hM2 := sameT s12 hM
        have e0 : (List.replicate (n + 1) [V.int 0]).flatten = (List.replicate (n + 1) (0 : Int)).map V.int := by rw [List.map_replicate]; simp
        rw [e0] at h2
        have lc : (cts rs).length = rs.length := by rw [cts, List.length_map]
        have hps : ∀ q ∈ ms.zip (cts rs), q.1 ∈ ms ∧ ∃ r ∈ rs, q.2 = r.2 := fun q hq => by
          have h := List.of_mem_zip (show (q.1, q.2) ∈ _ from hq)
          obtain ⟨r, hr, e⟩ := List.mem_map.mp h.2
          exact ⟨h.1, r, hr, e.symm⟩
        refine ⟨A.C_System, dx, _, sy2.ob, T.cl_System, T.na_System_rows, _, look_rows, ra, rfl, _, _, .inr ⟨hM2, sy2.rt, ?_⟩⟩
        refine loop_it (walk_zipT (xs := ms.map V.int) (ys := rv rs) (n := (ms.zip (cts rs)).length) (by rw [List.length_zip, rv, List.length_map, List.length_map, lc])) (fun i σ H' => Same H2 H' ∧ ∃ tb v4 v5, SqT K H' tb ((totL (List.replicate (n + 1) 0) ((ms.zip (cts rs)).take i)).map V.int) ∧ σ = [some (V.ref a), some (V.ref ma), some (V.int d), some (V.ref tb), v4, v5, none]) ⟨Same.refl _, ta, _, _, h2, rfl⟩ (fun i σ H' _ p => ⟨sameT p.1 hM2, sameT p.1 sy2.rt⟩) ?_ ?_
        · rintro i x σ H3 H4 hi ⟨s3, tb, v4, v5, h3, rfl⟩ ⟨t, x, y, rfl, nt, rfl, e1, e2⟩
          have hi1 : i < ms.length := by rw [List.length_zip] at hi; omega
          have hi2 : i < rs.length := by rw [List.length_zip] at hi; omega
          dsimp only at e1 e2
          rw [List.getElem?_map, List.getElem?_eq_getElem hi1] at e1
          rw [rv, List.getElem?_map, List.getElem?_eq_getElem hi2] at e2
          cases e1
          cases e2
          have hmem : rs[i] ∈ rs := List.getElem_mem hi2
          have ec : (cts rs)[i]'(by omega) = rs[i].2 := by simp [cts]
          have s4 := s3.trans (same_upd (o := .tup [V.int ms[i], V.ref rs[i].1]) nt)
          walk_at "wp"
          refine ⟨_, .inl (.inl upd_same), ?_⟩
          walk_at "wp"
          obtain ⟨b, b1, b2⟩ := (sy2.same s4).ok _ hmem
          have w := hW _ hmem
          have le : rs[i].2.e.length = n + 1 := by rw [Ct.e, List.length_append, w.len]; rfl
          refine ⟨rfl, _, b1, _, kv_last, ms[i], b, rs[i].2.e, rfl, b2, by omega, (hmz _ (List.getElem_mem hi1)).mono (by decide), fun x hx => (hz _ hmem x hx).mono (by decide), fun H5 p5 s5 h5 => ?_⟩
          have lt := totL_len (n := n) ((ms.zip (cts rs)).take i) (List.replicate (n + 1) 0) (List.length_replicate ..) fun q hq => by
            obtain ⟨_, r, hr, e⟩ := hps q (List.mem_of_mem_take hq)
            rw [e]
            exact (hW r hr).len
          refine ⟨tb, p5, _, _, rfl, sameT ((same_upd nt).trans s5) h3, h5, by rw [lt, List.length_map, le], by rw [List.length_map, le]; omega, fun H6 p6 s6 h6 => ?_⟩
          refine ⟨(s4.trans s5).trans s6, p6, ?_, rfl, _, rfl⟩
          rw [totL_take hi, List.getElem_zip, ec]
          exact h6
        · rintro σ H3 ⟨s3, tb, v4, v5, h3, rfl⟩
          rw [List.take_of_length_le (Nat.le_refl _)] at h3
          have lt := totL_len (n := n) (ms.zip (cts rs)) (List.replicate (n + 1) 0) (List.length_replicate ..) fun q hq => by
            obtain ⟨_, r, hr, e⟩ := hps q hq
            rw [e]
            exact (hW r hr).len
          have eS : sumOf n (cts rs) ms d = if ((totL (List.replicate (n + 1) 0) (ms.zip (cts rs))).take n).any (fun x => decide (x % d ≠ 0)) = true then none
              else some ⟨.ge, ((totL (List.replicate (n + 1) 0) (ms.zip (cts rs))).take n).map (· / d), (totL (List.replicate (n + 1) 0) (ms.zip (cts rs))).getD n 0 / d⟩ := by rw [sumOf, if_pos ⟨hA, hd1⟩]
          have bt := totL_sz (n := n) (ps := ms.zip (cts rs)) (by rw [List.length_zip]; omega) fun q hq => by
            obtain ⟨h1, r, hr, e⟩ := hps q hq
            rw [e]
            exact ⟨hmz _ h1, hz r hr⟩
          generalize totL (List.replicate (n + 1) 0) (ms.zip (cts rs)) = tt at *
          have s13 := s12.trans s3
          walk_at "wp"
          have h3' := h3
          rw [take_get lt, List.map_append] at h3'
          refine sl_init h3' fun H4 p4 s4 h4 => ⟨p4, rfl, ⟨_, h4⟩, fun D hD => ?_⟩
          have lt4 : (tt.take n).length = n := by rw [List.length_take]; omega
          refine lc_yat (walk_tup (xs := (tt.take n).map V.int)) rfl (fun v => match v with | .int x => .bl (decide (x % d ≠ 0)) | v => v) hD (by rw [List.length_map]; omega) (fun H' s => sameT s h4) (fun x H' R hx s1 k => ?_) (fun H5 s5 e5 => ?_)
          · obtain ⟨z, _, rfl⟩ := List.mem_map.mp hx
            walk_at "wp"
            refine ⟨by omega, ?_⟩
            have := k _ (Same.refl _)
            simpa using this
          · refine ⟨D, (tt.take n).map fun x => decide (x % d ≠ 0), rfl, ?_, ?_⟩
            · rw [List.map_map] at e5 ⊢
              exact SqL.of e5
            · rw [List.any_map]
              rw [show (id ∘ fun x : Int => decide (x % d ≠ 0)) = fun x => decide (x % d ≠ 0) from rfl]
              refine ⟨_, rfl, ?_⟩
              have s15 := (s13.trans s4).trans s5
              by_cases hany : (tt.take n).any (fun x => decide (x % d ≠ 0)) = true
              · rw [if_pos hany]
                exact qn (by rw [eS, if_pos hany]) _ s15
              · rw [if_neg hany]
                refine ⟨tb, tt, d, rfl, sameT (s4.trans s5) h3, by omega, hdz.mono (by decide), by omega, fun H6 p6 s6 h6 => ⟨by decide, fun p7 n7 => ?_⟩⟩
                have s17 := (s15.trans s6).trans (same_upd (o := .tup [V.str (Str.ofString "ge"), V.ref p6]) n7)
                have sy7 := sy.same s17
                have hT : CtT K (upd H6 p7 (.tup [V.str (Str.ofString "ge"), V.ref p6])) p7 ⟨.ge, (tt.take n).map (· / d), tt.getD n 0 / d⟩ := by
                  refine ⟨p6, SqT.of upd_same, sameT (same_upd n7) ?_⟩
                  rw [take_get lt, List.map_append] at h6
                  exact h6
                refine ⟨a, dx, _, p7, _, rfl, sy7.ob, rfl, SqT.of upd_same, a, dx, ra, p7, n, rs, _, rfl, sy7, hT, hW, ⟨trivial, by rw [List.length_map]; exact lt4, by rw [List.length_map]; omega, ?_, trivial⟩, hn, hr9, fun H8 b dy rb s8 sb => ⟨b, rfl, by decide, fun p9 n9 => ?_⟩⟩
                · intro x hx
                  have hx2 : x ∈ tt.map (· / d) := by
                    rw [take_get lt, List.map_append]
                    exact hx
                  obtain ⟨y, hy, rfl⟩ := List.mem_map.mp hx2
                  exact Sz.mono (sz_div (bt y hy) (by omega)) (by decide)
                · exact qs _ (by rw [eS, if_neg hany]) _ p9 b dy rb p7 ((s17.trans s8).trans (same_upd n9)) (SqT.of upd_same) (sb.same (same_upd n9))
theorem ok_split_by (T : Txt K mg A) : FnOk P w K mg base CX0 8 A.f_split_by A.d_split_by ["system", "expression"] (sp_split_by A K) := by
  have G_with_constant_added := ok_with_constant_added (w := w) (base := base) T
  have G_is_tuple_of_integers := ok_is_tuple_of_integers (w := w) (base := base) T
  have G_multiply := ok_multiply (w := w) (base := base) T
  have G_System___add__ := ok_System___add__ (w := w) (base := base) T
  refine T.F_split_by.ok sc_split_by (fun vs H Q E h => ?_) (fun cdv A' outer s H vs Q E hr h => ?_)
  · obtain ⟨a, dx, ra, ea, n, rs, xs, rfl, _⟩ := h
    rfl
  · obtain ⟨a, dx, ra, ea, n, rs, xs, rfl, sy, hW, hn, hr9, hE, hx9, hxz, q0, q⟩ := h
    refine ⟨_, (pss_cons (ps_if (pt_not (pt_val (pe_call G_is_tuple_of_integers (hr.mono (by decide)) (by rfl) T.g_is_tuple_of_integers T.F_is_tuple_of_integers.kp T.B_is_tuple_of_integers .nil pass0 (pa_cons (pv 1) (pa_cons (pe_op op_add (pe_fld (pv 0) rfl) pe_int) pa_nil))))) 
      (pss_one (ps_ret pe_non)) pss_nil) 
    (pss_cons (ps_set (i := 2) sc_split_by.nd rfl (Or.inl rfl) (pe_call G_with_constant_added (hr.mono (by decide)) (by rfl) T.g_with_constant_added T.F_with_constant_added.kp T.B_with_constant_added .nil pass0 (pa_cons (pe_call G_multiply (hr.mono (by decide)) (by rfl) T.g_multiply T.F_multiply.kp T.B_multiply .nil pass0 (pa_cons (pe_un un_neg pe_int) (pa_cons (pv 1) pa_nil))) (pa_cons (pe_un un_neg pe_int) pa_nil)))) 
    (pss_one (ps_ret (pe_tup (pa_cons (pe_op (op_addO T.ad_System G_System___add__ (hr.mono (by decide)) T.B_System___add__ pass0) (pv 0) (pe_tup (pa_cons pe_str (pa_cons (pv 1) pa_nil)))) (pa_cons (pe_op (op_addO T.ad_System G_System___add__ (hr.mono (by decide)) T.B_System___add__ pass0) (pv 0) (pe_tup (pa_cons pe_str (pa_cons (pv 2) pa_nil)))) pa_nil))))))), ?_⟩
    walk_at "wp"
    refine ⟨A.C_System, dx, _, sy.ob, T.cl_System, T.na_System_variables, _, look_var, (n : Int), rfl, ea, xs, (n : Int) + 1, rfl, hE, by omega, fun H1 s1 => ?_⟩
    by_cases hl : xs.length = n + 1
    · rw [decide_eq_true (by omega)]
      refine ⟨true, rfl, ?_⟩
      walk_at "wp"
      obtain ⟨c, d, rfl⟩ : ∃ c d, xs = c ++ [d] := ⟨_, _, take_get hl⟩
      have hc : c.length = n := by simpa using hl
      have eneg : (c ++ [d]).map (-1 * ·) = c.map (-1 * ·) ++ [-1 * d] := by rw [List.map_append]; rfl
      have sy1 := sy.same s1
      have hE1 := sameT s1 hE
      have bz : ∀ x ∈ c ++ [d], x.natAbs < 2 ^ 100 := hxz
      have w1 : Wf n ⟨.ge, c, d⟩ := ⟨trivial, hc, by show c.length ≤ 90; omega, fun x hx => Sz.mono (a := 100) (bz x hx) (by decide), trivial⟩
      have w2 : Wf n (opp c d) := by
        refine ⟨trivial, by show (c.map (-1 * ·)).length = n; rw [List.length_map]; exact hc, by show (c.map (-1 * ·)).length ≤ 90; rw [List.length_map]; omega, fun x hx => ?_, trivial⟩
        refine Sz.mono (a := 101) ?_ (by decide)
        show x.natAbs < 2 ^ 101
        rcases List.mem_append.mp hx with h | h
        · obtain ⟨y, hy, rfl⟩ := List.mem_map.mp h
          have := bz y (List.mem_append_left _ hy)
          omega
        · have := bz d (List.mem_append_right _ (List.mem_singleton.mpr rfl))
          rw [List.mem_singleton.mp h]
          show (-1 * d + -1).natAbs < 2 ^ 101
          omega
      refine ⟨-1, ea, c ++ [d], rfl, hE1, by omega, sz_one 1000 (by decide), fun x hx => (hxz x hx).mono (by decide), fun H2 p2 s2 h2 => ?_⟩
      rw [eneg] at h2
      refine ⟨p2, c.map (-1 * ·), -1 * d, -1, rfl, h2, by rw [List.length_map]; omega, fun H3 p3 s3 h3 => ⟨by decide, fun p4 n4 => ?_⟩⟩
      have s23 := s2.trans s3
      have s4 := same_upd (o := .tup [V.str (Str.ofString "ge"), V.ref ea]) n4
      have sy4 := sy1.same (s23.trans s4)
      refine ⟨a, dx, _, p4, _, rfl, sy4.ob, rfl, SqT.of upd_same, a, dx, ra, p4, n, rs, ⟨.ge, c, d⟩, rfl, sy4, ⟨ea, SqT.of upd_same, sameT (s23.trans s4) hE1⟩, hW, w1, hn, hr9, fun H5 b1 d1 r1 s5 sb1 => ⟨b1, rfl, by decide, fun p6 n6 => ?_⟩⟩
      have s6 := same_upd (o := .tup [V.str (Str.ofString "ge"), V.ref p3]) n6
      have sy6 := sy4.same (s5.trans s6)
      refine ⟨a, dx, _, p6, _, rfl, sy6.ob, rfl, SqT.of upd_same, a, dx, ra, p6, n, rs, opp c d, rfl, sy6, ⟨p3, SqT.of upd_same, sameT ((s4.trans s5).trans s6) h3⟩, hW, w2, hn, hr9, fun H7 b2 d2 r2 s7 sb2 => ⟨b2, rfl, by decide, fun p8 n8 => ?_⟩⟩
      have s8 := same_upd (o := .tup [V.ref b1, V.ref b2]) n8
      exact q c d rfl hc _ p8 b1 d1 r1 p4 b2 d2 r2 p6 ((((s1.trans s23).trans s4).trans s5).trans ((s6.trans s7).trans s8)) (SqT.of upd_same) (sb1.same ((s6.trans s7).trans s8)) (sb2.same s8)
    · rw [decide_eq_false (by omega)]
      refine ⟨false, rfl, ?_⟩
      walk_at "wp"
      exact q0 hl _ s1
theorem ok_closed (T : Txt K mg A) : FnOk P w K mg base CX0 7 A.f_closed A.d_closed ["system"] (sp_closed A K) := by
  have G_System_is_impossible := ok_System_is_impossible (w := w) (base := base) T
  have G_System_reduced := ok_System_reduced (w := w) (base := base) T
  refine T.F_closed.ok sc_closed (fun vs H Q E h => ?_) (fun cdv A' outer s H vs Q E hr h => ?_)
  · obtain ⟨a, dx, ra, n, rs, rfl, _⟩ := h
    rfl
  · obtain ⟨a, dx, ra, n, rs, rfl, sy, hW, hn, hr9, q1, q2⟩ := h
    refine ⟨_, (pss_one (ps_ret (pe_ifExp (pt_val (pe_prop (pe_meth0 (pv 0) T.cl_System T.me_System_reduced G_System_reduced hr T.B_System_reduced .nil pass0) T.cl_System T.pr_System_is_impossible G_System_is_impossible (hr.mono (by decide)) T.B_System_is_impossible .nil pass0 rfl)) (pe_tup pa_nil) pe_non))), ?_⟩
    walk_at "wp"
    refine ⟨dx, _, sy.ob, look_no (by decide +kernel) (by decide +kernel), a, dx, ra, n, rs, rfl, sy, hW, hn, hr9, fun H1 b db rb ss s1 sb e1 => ⟨b, rfl, db, _, sb.ob, b, db, rb, n, ss, rfl, sb, hn, fun H2 s2 => ⟨_, rfl, ?_⟩⟩⟩
    rw [e1]
    by_cases e : rrows n [] (cts rs) = [imp n]
    · rw [if_pos (decide_eq_true e)]
      exact ⟨by decide, fun p3 n3 => q1 e _ p3 ((s1.trans s2).trans (same_upd n3)) (SqT.of upd_same)⟩
    · rw [if_neg (by rw [decide_eq_true_eq]; exact e)]
      exact q2 e _ (s1.trans s2)
def sp_System___eq__ (_ : Ad) (K : PySem.W.Frag) : Sp := fun vs H Q _ => ∃ (a : Addr) (w : Str), vs = [.ref a, .str w] ∧ Q (.bl false) H
theorem ok_System___eq__ (T : Txt K mg A) : FnOk P w K mg base CX0 1 A.f_System___eq__ A.d_System___eq__ ["self", "other"] (sp_System___eq__ A K) := by
  refine T.F_System___eq__.ok sc_System___eq__ (fun vs H Q E h => ?_) (fun cdv A' outer s H vs Q E hr h => ?_)
  · obtain ⟨a, w, rfl, _⟩ := h
    rfl
  · obtain ⟨a, w, rfl, q⟩ := h
    refine ⟨_, (pss_one (ps_ret (pe_and (pe_callB (call_isStr T.kS) (by rfl) T.b_isinstance (by decide +kernel) (pa_cons (pv 1) (pa_cons (pe_glob (v := .ref A.C_System) rfl T.gC_System rfl) pa_nil))) (pe_and (pe_cmpR op_eq (pe_fld (pv 0) rfl) (pe_fld (pv 1) rfl) (nomark _)) (pe_one (pe_cmpR op_eq (pe_fld (pv 0) rfl) (pe_fld (pv 1) rfl) (nomark _))))))), ?_⟩
    walk_at "wp"
    exact q
end
local macro_rules | `(tactic| walk_at "wp") => `(tactic| simp only [tSeq, tCKw, tAsg, tPar, gName, gTup, gCons, gNil, tVar, tC, tOp, tUn, rI, rI0, rU, tCB, tCons, tNil, tIfS, tRet, tRetN, tNext, tNever, test_eq, tB, tTup, tLst, tCall, tCallS, tCallLS, tMakeS, tAddS, tChain, rNotInO, rInO, iEnumT, iEnum, rIsnotB, rIsB, iZipM, tMkO, tIf, tAndV, tOrV, tNotV, tNot, tAnd, tOr, rEq, rNe, scal_ii, scal_ss, scal_bb, dec_ii, dec_ss, dec_bb, for_eq, lc_eq, lc2_eq, while_eq, tDrop, tYes, iList, iTup, iOr, tDNewN, tNSet, rNSet, sFld, tFld, tMake, tProp, tMeth, cxP, cxW, iStr, iRng1, iRng2, RZ.iZipA, L2.start, rIxL, rIxT, rIxS, rSlS, cxK, tSl, tPart, tNoPart, tBM, tBM0, rAppend, rExtend, rRepS, rGcd, s_ge_eq, s_ge_div, s_eq_ge, s_eq_div, s_div_ge, s_div_eq, gSub, rSetL, tAug, ipI, rAdd, rSub, tM1, tM0,
  List.map_cons, List.map_nil, List.length_cons, List.length_nil, List.cons_append, List.nil_append, List.append_nil, List.getElem?_cons_succ, List.getElem?_cons_zero, List.set_cons_succ, List.set_cons_zero, Nat.reduceAdd, Nat.reduceSub, List.replicate_succ, List.replicate_zero, wipe,
  Option.some.injEq, V.int.injEq, V.str.injEq, sgn_eq, V.ref.injEq, V.bl.injEq, exists_eq_left, exists_eq_left', exists_and_left, exists_eq_right, List.cons.injEq, and_true, true_and, ex_bl, ex_int, exists_const, Nat.zero_add, Int.toNat_natCast, Int.zero_add, and_assoc, reduceCtorEq, false_and, and_false, exists_false, or_false, false_or, eq_self, decide_true, decide_false, ite_true, ite_false, if_true, if_false, Bool.false_eq_true, Bool.not_true, Bool.not_false, ↓reduceIte])
/-! ### steps -/
abbrev Sm := Nat × List Ct
inductive Stp where
  | close
  | add (ms : List Int) (d : Int)
  | split (xs : List Int)
  | cases (k : Nat)
def StM (K : PySem.W.Frag) (H : Hp) (st : Addr) : Stp → Prop
  | .close => SqT K H st [.str "close"]
  | .add ms d => ∃ ma, SqT K H st [.str "add", .ref ma, .int d] ∧ SqT K H ma (ms.map V.int)
  | .split xs => ∃ ea, SqT K H st [.str "split", .ref ea] ∧ SqT K H ea (xs.map V.int)
  | .cases k => SqT K H st [.str "cases", .int (k : Int)]
theorem stm_stay {K : PySem.W.Frag} : Stay (StM K) := ⟨fun {H H' a s} h st => by
    cases s with
    | close => exact sameT st h
    | add ms d => obtain ⟨ma, h1, h2⟩ := h; exact ⟨ma, sameT st h1, sameT st h2⟩
    | split xs => obtain ⟨ma, h1, h2⟩ := h; exact ⟨ma, sameT st h1, sameT st h2⟩
    | cases k => exact sameT st h, fun {H D a l l' s} e h => by
    cases s with
    | close => exact sqT_upd e h
    | add ms d => obtain ⟨ma, h1, h2⟩ := h; exact ⟨ma, sqT_upd e h1, sqT_upd e h2⟩
    | split xs => obtain ⟨ma, h1, h2⟩ := h; exact ⟨ma, sqT_upd e h1, sqT_upd e h2⟩
    | cases k => exact sqT_upd e h⟩
def StB : Stp → Prop
  | .close => True
  | .add ms d => ms.length ≤ 5000 ∧ (∀ m ∈ ms, Sz 64 m) ∧ Sz 64 d
  | .split xs => xs.length ≤ 100 ∧ ∀ x ∈ xs, Sz 64 x
  | .cases _ => True
def SyN (A : Ad) (K : PySem.W.Frag) (H : Hp) (b : Addr) (y : Sm) : Prop := SyP A K y.1 H b y.2
theorem syn_stay {A : Ad} {K : PySem.W.Frag} : Stay (SyN A K) := ⟨fun {_ _ _ y} h s => (syp_stay (n := y.1)).same h s, fun {_ _ _ _ _ y} e h => (syp_stay (n := y.1)).lst e h⟩
/-- a system whose numbers and rows are not too many or too great -/
structure GS (c : Nat) (y : Sm) : Prop where
  gd : ∀ t ∈ y.2, Gn y.1 t
  nr : y.2.length ≤ 4200
  nd : nD y.2 ≤ c
  n4 : y.1 ≤ 44
/-- the cases of the elimination are too many -/
def ManyC (k : Nat) (ts : List Ct) : Prop := 200 < countC k ts ∨ (rule k ts = 2 ∧ 4000 < (othE k ts).length + (lowE k ts).length * (uppE k ts).length)
def Many (y : Sm) : Stp → Prop
  | .cases k => k < y.1 ∧ ManyC k y.2
  | _ => False
/-- what a step makes -/
def madeP (y : Sm) : Stp → Option (List Sm)
  | .close => if rrows y.1 [] y.2 = [imp y.1] then some [] else none
  | .add ms d => (sumOf y.1 y.2 ms d).map fun t => [(y.1, t :: y.2)]
  | .split xs => if xs.length = y.1 + 1 then some [(y.1, ⟨.ge, xs.take y.1, xs.getD y.1 0⟩ :: y.2), (y.1, opp (xs.take y.1) (xs.getD y.1 0) :: y.2)] else none
  | .cases k => if k < y.1 then some ((List.range (countC k y.2).toNat).map fun (i : Nat) => (y.1 - 1, rrows (y.1 - 1) [] (caseRows k y.2 (i : Int)))) else none
/-- the promise of made_by -/
def MadeC (A : Ad) (K : PySem.W.Frag) (y : Sm) (s : Stp) (H : Hp) (Q : VK) (E : XK) : Prop :=
  (Many y s → ∀ H', Same H H' → E (.ref A.xM) none H') ∧
  (¬ Many y s → madeP y s = none → ∀ H', Same H H' → Q .non H') ∧
  (¬ Many y s → ∀ ys, madeP y s = some ys → ∀ H' p bs, Same H H' → SqT K H' p (rsv bs) → RsAll (SyN A K) H' bs → bs.map (·.2) = ys → Q (.ref p) H')
theorem MadeC.same {A : Ad} {K : PySem.W.Frag} {y : Sm} {s : Stp} {H H1 : Hp} {Q : VK} {E : XK} (h : MadeC A K y s H Q E) (st : Same H H1) : MadeC A K y s H1 Q E :=
  ⟨fun m H' s' => h.1 m H' (st.trans s'), fun m e H' s' => h.2.1 m e H' (st.trans s'), fun m ys e H' p bs s' => h.2.2 m ys e H' p bs (st.trans s')⟩
def sp_made_by (A : Ad) (K : PySem.W.Frag) : Sp := fun vs H Q E => ∃ (a st : Addr) (y : Sm) (s : Stp), vs = [.ref a, .ref st] ∧ SyN A K H a y ∧ GS 100 y ∧ StM K H st s ∧ StB s ∧ MadeC A K y s H Q E
def sp_check_case_counts (A : Ad) (K : PySem.W.Frag) : Sp := fun vs H Q E => ∃ (a dx ra : Addr) (n k : Nat) (rs : List Rw), vs = [.ref a, .int (k : Int)] ∧ Sy K A.C_System H a dx ra n rs ∧ GS 100 (n, cts rs) ∧ k < n ∧
  (ManyC k (cts rs) → ∀ H', Same H H' → E (.ref A.xM) none H') ∧ (¬ ManyC k (cts rs) → ∀ H', Same H H' → Q .non H')
def sp_split_into_cases (A : Ad) (K : PySem.W.Frag) : Sp := fun vs H Q E => ∃ (a : Addr) (y : Sm) (k : Nat), vs = [.ref a, .int (k : Int)] ∧ SyN A K H a y ∧ GS 100 y ∧ MadeC A K y (.cases k) H Q E
theorem gs_rs {c n : Nat} {rs : List Rw} (g : GS c (n, cts rs)) : (∀ r ∈ rs, Gn n r.2) ∧ rs.length ≤ 4200 := ⟨fun r hr => g.gd r.2 (List.mem_map.mpr ⟨r, hr, rfl⟩), by have := g.nr; rw [cts, List.length_map] at this; exact this⟩
def Stp.pd : Stp → PyData
  | .close => .tuple [.str "close"]
  | .add ms d => .tuple [.str "add", .tuple (ms.map PyData.int), .int d]
  | .split xs => .tuple [.str "split", .tuple (xs.map PyData.int)]
  | .cases k => .tuple [.str "cases", .int (k : Int)]
theorem stp_dp {K : PySem.W.Frag} {H : Hp} {st : Addr} {s : Stp} (h : StM K H st s) : Dp K H (.ref st) s.pd := by
  cases s with
  | close => exact .tup h (.cons (.str _) .nil)
  | add ms d => obtain ⟨ma, h1, h2⟩ := h; exact .tup h1 (.cons (.str _) (.cons (.tup h2 (dp_ints ms)) (.cons (.int _) .nil)))
  | split xs => obtain ⟨ma, h1, h2⟩ := h; exact .tup h1 (.cons (.str _) (.cons (.tup h2 (dp_ints xs)) .nil))
  | cases k => exact .tup h (.cons (.str _) (.cons (.int _) .nil))
theorem stp_shaped (s : Stp) : SeqAt.shaped s.pd = true := by
  unfold SeqAt.shaped Stp.pd
  cases s <;> simp only [PyData.canLay0, PyData.canLayAll0, PyData.depth, PyData.depthAll, lay_ints, depth_ints] <;> first | decide +kernel | (rw [show PyData.strOk (Str.ofString "cases") = true by decide +kernel]; rfl)
def Stp.isC : Stp → Bool
  | .close => true
  | _ => false
theorem stp_eqv (s : Stp) : PyData.eqv s.pd (.tuple [.str "close"]) = s.isC := by
  cases s with
  | close => decide +kernel
  | add ms d => simp only [Stp.pd, PyData.eqv, PyData.eqvAll, Bool.and_false, Stp.isC]
  | split xs => simp only [Stp.pd, PyData.eqv, PyData.eqvAll, Bool.and_false, Stp.isC]
  | cases k =>
    simp only [Stp.pd, PyData.eqv, PyData.eqvAll, Bool.and_false, Stp.isC]
def Stp.vs (a : Addr) : Stp → List V
  | .close => [.str "close"]
  | .add _ d => [.str "add", .ref a, .int d]
  | .split _ => [.str "split", .ref a]
  | .cases k => [.str "cases", .int (k : Int)]
theorem stm_vs {K : PySem.W.Frag} {H : Hp} {st : Addr} {s : Stp} (h : StM K H st s) : ∃ a, SqT K H st (s.vs a) := by
  cases s with
  | close => exact ⟨0, h⟩
  | add ms d => obtain ⟨ma, h1, h2⟩ := h; exact ⟨ma, h1⟩
  | split xs => obtain ⟨ma, h1, h2⟩ := h; exact ⟨ma, h1⟩
  | cases k => exact ⟨0, h⟩
section
variable {w : World} {K : PySem.W.Frag} {mg : Str → Option Value} {base : Heap} {A : Ad}
theorem ok_check_case_counts (T : Txt K mg A) : FnOk P w K mg base (L2N.CX P w) 4 A.f_check_case_counts A.d_check_case_counts ["system", "k"] (sp_check_case_counts A K) := by
  have G_Elimination___init__ := ok_Elimination___init__ (w := w) (base := base) T
  have G_Elimination_count_cases := ok_Elimination_count_cases (w := w) (base := base) T
  have G_Elimination_count_joined := ok_Elimination_count_joined (w := w) (base := base) T
  refine T.F_check_case_counts.okN sc_check_case_counts (fun vs H Q E h => ?_) (fun cdv A' outer s H vs Q E hr h => ?_)
  · obtain ⟨a, dx, ra, n, k, rs, rfl, _⟩ := h
    rfl
  · obtain ⟨a, dx, ra, n, k, rs, rfl, sy, g, hk, qm, qn⟩ := h
    refine ⟨_, (pss_cons (ps_set (i := 2) sc_check_case_counts.nd rfl (Or.inl rfl) (pe_make T.mk_Elimination G_Elimination___init__ hr (by rfl) T.gC_Elimination T.B_Elimination___init__ .nil pass0 (pa_cons (pv 0) (pa_cons (pv 1) pa_nil)))) 
    (pss_cons (ps_if (pt_cmpR op_gt (pe_meth0 (pv 2) T.cl_Elimination T.me_Elimination_count_cases G_Elimination_count_cases (hr.mono (by decide)) T.B_Elimination_count_cases .nil pass0) (pe_glob (v := .int 200) rfl T.g_MOST_CASES ⟨_, rfl⟩) (nomark _)) 
      (pss_one (L2N.ps_raise rfl (L2N.takes_of rfl rfl rfl rfl) (L2N.pmk_own PySem.F.excBase_ValueError T.tm.q T.tm.g T.tm.kp (raises_own T.tm.r1 T.tm.r2) (by rfl)))) pss_nil) 
    (pss_one (ps_if (PW.pt (pw_and (pt_cmpR op_eq (pe_fld (pv 2) rfl) pe_int (nomark _)) (pw_and1 (pt_cmpR op_gt (pe_meth0 (pv 2) T.cl_Elimination T.me_Elimination_count_joined G_Elimination_count_joined (hr.mono (by decide)) T.B_Elimination_count_joined .nil pass0) (pe_glob (v := .int 4000) rfl T.g_MOST_JOINED ⟨_, rfl⟩) (nomark _))))) 
      (pss_one (L2N.ps_raise rfl (L2N.takes_of rfl rfl rfl rfl) (L2N.pmk_own PySem.F.excBase_ValueError T.tm.q T.tm.g T.tm.kp (raises_own T.tm.r1 T.tm.r2) (by rfl)))) pss_nil)))), ?_⟩
    walk_at "wp"
    obtain ⟨gd, nr⟩ := gs_rs g
    refine el_make sy gd nr g.nd hk g.n4 fun H1 x dx' oa la ua pa os ls us ps s1 hE => ?_
    have ob := hE.ob
    refine ⟨dx', _, hE.ob, lf_none (by decide +kernel), x, dx', a, dx, ra, oa, la, ua, pa, n, k, rs, os, ls, us, ps, rfl, hE, fun H2 s2 => ⟨_, rfl, ?_⟩⟩
    by_cases hc : 200 < countC k (cts rs)
    · rw [if_pos (decide_eq_true hc)]
      exact qm (.inl hc) _ (s1.trans s2)
    · rw [if_neg (by rw [decide_eq_true_eq]; exact hc)]
      have E2 := hE.same s2
      refine ⟨A.C_Elimination, dx', _, E2.ob, T.cl_Elimination, T.na_Elimination_rule, _, lf_rule, rfl, ?_⟩
      rw [dec_ii]
      by_cases r2 : rule k (cts rs) = 2
      · rw [if_pos (decide_eq_true (by omega))]
        refine ⟨dx', _, E2.ob, lf_none (by decide +kernel), x, dx', a, dx, ra, oa, la, ua, pa, n, k, rs, os, ls, us, ps, rfl, E2, fun H3 s3 => ⟨_, rfl, ?_⟩⟩
        have s13 := (s1.trans s2).trans s3
        by_cases hj : 4000 < (othE k (cts rs)).length + (lowE k (cts rs)).length * (uppE k (cts rs)).length
        · rw [if_pos (decide_eq_true (by omega))]
          exact qm (.inr ⟨r2, hj⟩) _ s13
        · rw [if_neg (by rw [decide_eq_true_eq]; omega)]
          exact qn (fun z => by rcases z with z | z; exact hc z; exact hj z.2) _ s13
      · rw [if_neg (by rw [decide_eq_true_eq]; omega)]
        exact qn (fun z => by rcases z with z | z; exact hc z; exact r2 z.1) _ (s1.trans s2)
theorem ok_split_into_cases (T : Txt K mg A) : FnOk P w K mg base (L2N.CX P w) 9 A.f_split_into_cases A.d_split_into_cases ["system", "k"] (sp_split_into_cases A K) := by
  have G_check_case_counts := ok_check_case_counts (w := w) (base := base) T
  have G_cases := ok_cases (w := w) (base := base) T
  have G_is_integer := ok_is_integer (w := w) (base := base) T
  refine T.F_split_into_cases.okN sc_split_into_cases (fun vs H Q E h => ?_) (fun cdv A' outer s H vs Q E hr h => ?_)
  · obtain ⟨a, y, k, rfl, _⟩ := h
    rfl
  · obtain ⟨a, ⟨n, ts⟩, k, rfl, ⟨dx, ra, rs, sy, es⟩, g, qm, qn, qs⟩ := h
    refine ⟨_, (pss_cons (ps_if (PW.pt (pw_or (pt_not (pt_val (pe_call G_is_integer (hr.mono (by decide)) (by rfl) T.g_is_integer T.F_is_integer.kp T.B_is_integer .nil pass0 (pa_cons (pv 1) pa_nil)))) (pw_or1 (pt_not (pt_chain op_le op_lt pe_int (pv 1) (pe_fld (pv 0) rfl)))))) 
      (pss_one (ps_ret pe_non)) pss_nil) 
    (pss_cons (ps_expr (pe_callS G_check_case_counts (hr.mono (by decide)) (by rfl) T.g_check_case_counts T.F_check_case_counts.kp T.B_check_case_counts (fun σ => L2N.passAt (L2N.takes_of rfl rfl rfl rfl) σ) (pa_cons (pv 0) (pa_cons (pv 1) pa_nil)))) 
    (pss_one (ps_ret (pe_call G_cases hr (by rfl) T.g_cases T.F_cases.kp T.B_cases .nil pass0 (pa_cons (pv 0) (pa_cons (pv 1) pa_nil))))))), ?_⟩
    walk_at "wp"
    subst es
    refine ⟨(k : Int), rfl, true, rfl, ?_⟩
    walk_at "wp"
    refine ⟨A.C_System, dx, _, sy.ob, T.cl_System, T.na_System_variables, _, look_var, ?_⟩
    refine ⟨_, rfl, ?_⟩
    by_cases hk : k < n
    · rw [if_neg (by rw [decide_eq_true (show (k : Int) < ((n, cts rs).1 : Nat) by dsimp only; omega)]; decide)]
      obtain ⟨gd, nr⟩ := gs_rs g
      refine ⟨a, dx, ra, n, k, rs, rfl, sy, g, hk, fun m H' s => qm ⟨hk, m⟩ H' s, fun m H' s => ?_⟩
      have nm : ¬ Many (n, cts rs) (.cases k) := fun z => m z.2
      have sy' := sy.same s
      refine ⟨a, dx, ra, n, k, rs, rfl, sy', gd, nr, g.nd, hk, g.n4, Int.not_lt.mp fun z => m (.inl (by omega)), fun r2 => Nat.not_lt.mp fun z => m (.inr ⟨r2, by rw [Nat.mul_comm]; omega⟩), fun H2 t bs s2 hT hR eb => ?_⟩
      refine qs nm _ (by rw [madeP, if_pos hk]) H2 t (bs.map fun b => (b.1, (n - 1, b.2))) (s.trans s2) ?_ (fun r hr => ?_) ?_
      · rw [rsv, List.map_map]
        exact hT
      · obtain ⟨b, hb, rfl⟩ := List.mem_map.mp hr
        exact hR b hb
      · rw [List.map_map]
        have : (bs.map (·.2)).map (fun z => (n - 1, z)) = ((List.range (countC k (cts rs)).toNat).map fun (i : Nat) => rrows (n - 1) [] (caseRows k (cts rs) (i : Int))).map (fun z => (n - 1, z)) := by rw [eb]
        rw [List.map_map, List.map_map] at this
        exact this
    · rw [if_pos (by rw [decide_eq_false (show ¬ (k : Int) < ((n, cts rs).1 : Nat) by dsimp only; omega)]; rfl)]
      exact qn (fun z => hk z.1) (by rw [madeP, if_neg hk]) _ (Same.refl _)
theorem ok_made_by (T : Txt K mg A) : FnOk P w K mg base (L2N.CX P w) 10 A.f_made_by A.d_made_by ["system", "step"] (sp_made_by A K) := by
  have G_closed := ok_closed (w := w) (base := base) T
  have G_added := ok_added (w := w) (base := base) T
  have G_split_by := ok_split_by (w := w) (base := base) T
  have G_split_into_cases := ok_split_into_cases (w := w) (base := base) T
  refine T.F_made_by.okN sc_made_by (fun vs H Q E h => ?_) (fun cdv A' outer s H vs Q E hr h => ?_)
  · obtain ⟨a, st, y, s, rfl, _⟩ := h
    rfl
  · obtain ⟨a, st, ⟨n, ts⟩, s, rfl, hY, g, hS, hB, hM⟩ := h
    refine ⟨_, (pss_cons (ps_if (PW.pt (pw_or (pt_not (pt_val (pe_callB call_isi (by rfl) T.b_isinstance (by decide +kernel) (pa_cons (pv 1) (pa_cons (pe_bltn (v := .ty "tuple") (by rfl) T.b_tuple (by decide +kernel) rfl) pa_nil))))) (pw_or1 (pt_cmpR op_eq (pe_callB call_len_seq (by rfl) T.b_len (by decide +kernel) (pa_cons (pv 1) pa_nil)) pe_int (nomark _))))) 
      (pss_one (ps_ret pe_non)) pss_nil) 
    (pss_cons (ps_if (pt_cmpR (op_eqD hr.units) (pv 1) (pe_tup (pa_cons pe_str pa_nil)) (nomark _)) 
      (pss_one (ps_ret (pe_call G_closed (hr.mono (by decide)) (by rfl) T.g_closed T.F_closed.kp T.B_closed .nil pass0 (pa_cons (pv 0) pa_nil)))) pss_nil) 
    (pss_cons (ps_if (PW.pt (pw_and (pt_cmpR op_eq (pe_ix ix_tup (pv 1) pe_int (fun _ _ => rfl)) pe_str (nomark _)) (pw_and1 (pt_cmpR op_eq (pe_callB call_len_seq (by rfl) T.b_len (by decide +kernel) (pa_cons (pv 1) pa_nil)) pe_int (nomark _))))) 
      (pss_one (ps_ret (pe_call G_added (hr.mono (by decide)) (by rfl) T.g_added T.F_added.kp T.B_added .nil pass0 (pa_cons (pv 0) (pa_cons (pe_ix ix_tup (pv 1) pe_int (fun _ _ => rfl)) (pa_cons (pe_ix ix_tup (pv 1) pe_int (fun _ _ => rfl)) pa_nil)))))) pss_nil) 
    (pss_cons (ps_if (PW.pt (pw_and (pt_cmpR op_eq (pe_ix ix_tup (pv 1) pe_int (fun _ _ => rfl)) pe_str (nomark _)) (pw_and1 (pt_cmpR op_eq (pe_callB call_len_seq (by rfl) T.b_len (by decide +kernel) (pa_cons (pv 1) pa_nil)) pe_int (nomark _))))) 
      (pss_one (ps_ret (pe_call G_split_by (hr.mono (by decide)) (by rfl) T.g_split_by T.F_split_by.kp T.B_split_by .nil pass0 (pa_cons (pv 0) (pa_cons (pe_ix ix_tup (pv 1) pe_int (fun _ _ => rfl)) pa_nil))))) pss_nil) 
    (pss_cons (ps_if (PW.pt (pw_and (pt_cmpR op_eq (pe_ix ix_tup (pv 1) pe_int (fun _ _ => rfl)) pe_str (nomark _)) (pw_and1 (pt_cmpR op_eq (pe_callB call_len_seq (by rfl) T.b_len (by decide +kernel) (pa_cons (pv 1) pa_nil)) pe_int (nomark _))))) 
      (pss_one (ps_ret (pe_callS G_split_into_cases hr (by rfl) T.g_split_into_cases T.F_split_into_cases.kp T.B_split_into_cases (fun σ => L2N.passAt (L2N.takes_of rfl rfl rfl rfl) σ) (pa_cons (pv 0) (pa_cons (pe_ix ix_tup (pv 1) pe_int (fun _ _ => rfl)) pa_nil))))) pss_nil) 
    (pss_one (ps_ret pe_non))))))), ?_⟩
    walk_at "wp"
    obtain ⟨z, hz⟩ := stm_vs hS
    refine isi (ty_tup hz) (r := true) (by decide +kernel) ⟨true, rfl, ?_⟩
    walk_at "wp"
    refine ⟨_, .inr hz, ?_⟩
    rw [if_neg (by cases s <;> simp [Stp.vs])]
    refine ⟨by decide, fun p1 n1 => ?_⟩
    have s1 := same_upd (o := .tup [V.str (Str.ofString "close")]) n1
    have hS1 := stm_stay.same hS s1
    refine ⟨s.pd, .tuple [.str "close"], stp_dp hS1, .tup (SqT.of upd_same) (.cons (.str _) .nil), stp_shaped _, by decide +kernel, ?_⟩
    rw [stp_eqv]
    refine ⟨s.isC, rfl, ?_⟩
    have hY1 := syn_stay.same hY s1
    have hM1 := hM.same s1
    generalize upd H p1 (.tup [V.str (Str.ofString "close")]) = H1 at *
    clear hz
    obtain ⟨dx, ra, rs, sy, es⟩ := hY1
    subst es
    obtain ⟨gd, nr⟩ := gs_rs g
    have wf : ∀ r ∈ rs, Wf n r.2 := fun r hr => (gd r hr).wf (by have := g.n4; dsimp only at this; omega)
    have n4 : n ≤ 44 := g.n4
    obtain ⟨qm, qn, qs⟩ := hM1
    have noM : ∀ s, (∀ k, s ≠ .cases k) → ¬ Many (n, cts rs) s := fun s h z => by
      cases s with
      | cases k => exact h k rfl
      | close => exact z
      | add _ _ => exact z
      | split _ => exact z
    cases s with
    | close =>
      rw [if_pos (show Stp.close.isC = true from rfl)]
      have nm := noM .close (fun k z => by cases z)
      refine ⟨a, dx, ra, n, rs, rfl, sy, wf, by omega, by omega, fun e H' p s hp => ?_, fun e H' s => ?_⟩
      · exact qs nm [] (by rw [madeP, if_pos e]) H' p [] s hp (fun _ h => by cases h) rfl
      · exact qn nm (by rw [madeP, if_neg e]) H' s
    | add ms d =>
      rw [if_neg (show ¬ (Stp.add ms d).isC = true from Bool.false_ne_true)]
      have nm := noM (.add ms d) (fun k z => by cases z)
      obtain ⟨ma, hst, hma⟩ := hS1
      obtain ⟨hl, hmz, hdz⟩ := hB
      refine ⟨_, hst, _, rfl, rfl, ?_⟩
      walk_at "wp"
      refine ⟨_, .inr hst, ?_⟩
      rw [if_pos (by rfl)]
      refine ⟨_, hst, _, rfl, _, hst, _, rfl, a, dx, ra, ma, n, rs, ms, d, rfl, sy, hma, wf, fun r hr x hx => ?_, by omega, by omega, hl, fun m hm => (hmz m hm).mono (by decide), hdz.mono (by decide), fun e H' s => ?_, fun t e H' p b dy rb x s hp sb => ?_⟩
      · rcases List.mem_append.mp hx with h | h
        · exact ((gd r hr).cs x h).mono (by decide)
        · rw [List.mem_singleton.mp h]; exact (gd r hr).ds.mono (by decide)
      · exact qn nm (by rw [madeP, e]; rfl) H' s
      · exact qs nm [(n, t :: cts rs)] (by rw [madeP, e]; rfl) H' p [(b, (n, t :: cts rs))] s hp (fun r hr => by rw [List.mem_singleton.mp hr]; exact ⟨dy, rb, (x, t) :: rs, sb, rfl⟩) rfl
    | split xs =>
      rw [if_neg (show ¬ (Stp.split xs).isC = true from Bool.false_ne_true)]
      have nm := noM (.split xs) (fun k z => by cases z)
      obtain ⟨ea, hst, hea⟩ := hS1
      obtain ⟨hl, hxz⟩ := hB
      refine ⟨_, hst, _, rfl, rfl, ?_⟩
      walk_at "wp"
      rw [if_neg (by decide +kernel)]
      refine ⟨_, hst, _, rfl, rfl, ?_⟩
      walk_at "wp"
      refine ⟨_, .inr hst, ?_⟩
      rw [if_pos (by rfl)]
      refine ⟨_, hst, _, rfl, a, dx, ra, ea, n, rs, xs, rfl, sy, wf, by omega, by omega, hea, hl, fun x hx => (hxz x hx).mono (by decide), fun e H' s => ?_, fun c d ex hc H' p b1 d1 r1 x1 b2 d2 r2 x2 s hp s1 s2 => ?_⟩
      · exact qn nm (by rw [madeP, if_neg e]) H' s
      · have e1 : xs.take n = c := by rw [ex, List.take_left' hc]
        have e2 : xs.getD n 0 = d := by rw [ex, List.getD_eq_getElem?_getD, List.getElem?_append_right (by omega), hc, Nat.sub_self]; rfl
        have e3 : xs.length = n + 1 := by rw [ex, List.length_append, hc, List.length_singleton]
        exact qs nm [(n, ⟨.ge, c, d⟩ :: cts rs), (n, opp c d :: cts rs)] (by rw [madeP, if_pos e3]; dsimp only; rw [e1, e2]) H' p [(b1, (n, ⟨.ge, c, d⟩ :: cts rs)), (b2, (n, opp c d :: cts rs))] s hp (fun r hr => by
          rcases List.mem_cons.mp hr with rfl | hr
          · exact ⟨d1, r1, (x1, ⟨.ge, c, d⟩) :: rs, s1, rfl⟩
          · rw [List.mem_singleton.mp hr]; exact ⟨d2, r2, (x2, opp c d) :: rs, s2, rfl⟩) rfl
    | cases k =>
      rw [if_neg (show ¬ (Stp.cases k).isC = true from Bool.false_ne_true)]
      refine ⟨_, hS1, _, rfl, rfl, ?_⟩
      walk_at "wp"
      rw [if_neg (by decide +kernel)]
      refine ⟨_, hS1, _, rfl, rfl, ?_⟩
      walk_at "wp"
      rw [if_neg (by decide +kernel)]
      refine ⟨_, hS1, _, rfl, rfl, ?_⟩
      walk_at "wp"
      refine ⟨_, .inr hS1, ?_⟩
      rw [if_pos (by rfl)]
      exact ⟨_, hS1, _, rfl, a, (n, cts rs), k, rfl, ⟨dx, ra, rs, sy, rfl⟩, g, qm, qn, qs⟩
end
local macro_rules | `(tactic| walk_at "wp") => `(tactic| simp only [tSeq, tCKw, tAsg, tPar, gName, gTup, gCons, gNil, tVar, tC, tOp, tUn, rI, rI0, rU, tCB, tCons, tNil, tIfS, tRet, tRetN, tNext, tNever, test_eq, tB, tTup, tLst, tCall, tCallS, tCallLS, tMakeS, tAddS, tChain, rNotInO, rInO, iEnumT, iEnum, rIsnotB, rIsB, iZipM, tMkO, tIf, tAndV, tOrV, tNotV, tNot, tAnd, tOr, rEq, rNe, scal_ii, scal_ss, scal_bb, dec_ii, dec_ss, dec_bb, for_eq, lc_eq, lc2_eq, while_eq, tDrop, tYes, iList, iTup, iOr, tDNewN, tNSet, rNSet, sFld, tFld, tMake, tProp, tMeth, cxP, cxW, iStr, iRng1, iRng2, RZ.iZipA, L2.start, rIxL, rIxT, rIxS, rSlS, cxK, tSl, tPart, tNoPart, tBM, tBM0, rAppend, rExtend, rRepS, rGcd, s_ge_eq, s_ge_div, s_eq_ge, s_eq_div, s_div_ge, s_div_eq, gSub, rSetL, tAug, ipI, rAdd, rSub, tM1, tM0,
  List.map_cons, List.map_nil, List.length_cons, List.length_nil, List.cons_append, List.nil_append, List.append_nil, List.getElem?_cons_succ, List.getElem?_cons_zero, List.set_cons_succ, List.set_cons_zero, Nat.reduceAdd, Nat.reduceSub, List.replicate_succ, List.replicate_zero, wipe,
  Option.some.injEq, V.int.injEq, V.str.injEq, sgn_eq, V.ref.injEq, V.bl.injEq, exists_eq_left, exists_eq_left', exists_and_left, exists_eq_right, List.cons.injEq, and_true, true_and, ex_bl, ex_int, exists_const, Nat.zero_add, Int.toNat_natCast, Int.zero_add, and_assoc, reduceCtorEq, false_and, and_false, exists_false, or_false, false_or, eq_self, decide_true, decide_false, ite_true, ite_false, if_true, if_false, Bool.false_eq_true, Bool.not_true, Bool.not_false, ↓reduceIte])
def Kd.mid : Kd → List Int
  | .div m => [m]
  | _ => []
theorem sl_mid {K : PySem.W.Frag} {H : Hp} {x a : Addr} {k : Kd} {Q : VK} (h : SqT K H x (k.v a)) (q : ∀ H' p, Same H H' → SqT K H' p (k.mid.map V.int) → Q (.ref p) H') : rSlA K (.ref x) (some 1) (some (-1)) H Q := by
  refine ⟨x, _, rfl, h, fun z => ?_, fun _ p np => q _ p (same_upd np) ?_⟩
  · have z1 : min 1 (k.v a).length = 0 := (HT.sIx_nat _ 0 1).symm.trans z.1
    cases k <;> simp [Kd.v] at z1
  · have ec : cutV (k.v a) (some 1) (some (-1)) = k.mid.map V.int := by cases k <;> rfl
    rw [ec]
    exact SqT.of upd_same
/-! ### what a step leaves is again of the kind -/
def dd (t : Ct) : Nat := if t.k.isD = true then 1 else 0
theorem nD_cons (t : Ct) (l : List Ct) : nD (t :: l) = dd t + nD l := by
  unfold nD dd
  rw [List.filter_cons]
  cases t.k.isD <;> simp <;> omega
theorem nD_app (a b : List Ct) : nD (a ++ b) = nD a + nD b := by
  unfold nD
  rw [List.filter_append, List.length_append]
theorem nD_ins (u : Ct) : ∀ l : List Ct, nD (ins l u) ≤ nD l + dd u
  | [] => by rw [ins, nD_cons]; omega
  | f :: r => by
    rw [ins]
    by_cases h : sk f u = true
    · rw [if_pos h, nD_cons, nD_cons]
      have : dd (if u.d < f.d then u else f) = dd f := by
        split
        · unfold dd; rw [sk_k h]
        · rfl
      omega
    · rw [if_neg h, nD_cons, nD_cons]
      have := nD_ins u r
      omega
theorem dd_red {t u : Ct} (h : red t = some u) : dd u ≤ dd t := by
  obtain ⟨k, c, d⟩ := t
  cases k with
  | ge =>
    simp only [red] at h
    split at h
    · cases h; exact Nat.le_refl _
    · split at h
      · cases h
      · cases h; exact Nat.le_refl _
  | eq =>
    simp only [red] at h
    split at h
    · cases h
    · split at h
      · cases h; exact Nat.le_refl _
      · split at h
        · cases h; exact Nat.le_refl _
        · cases h; exact Nat.le_refl _
  | div m =>
    simp only [red] at h
    split at h
    · cases h; exact Nat.zero_le _
    · split at h
      · cases h
      · cases h; exact Nat.le_refl _
theorem nD_rrows (n : Nat) : ∀ (rows found : List Ct), nD (rrows n found rows) ≤ nD found + nD rows
  | [], found => by rw [rrows]; omega
  | t :: r, found => by
    rw [rrows, nD_cons]
    cases hq : red t with
    | none =>
      have := nD_rrows n r found
      show nD (rrows n found r) ≤ _
      omega
    | some u =>
      show nD (if u = imp n then [u] else rrows n (ins found u) r) ≤ _
      split
      · rename_i e
        rw [e]
        exact Nat.zero_le _
      · have h1 := nD_rrows n r (ins found u)
        have h2 := nD_ins u found
        have h3 := dd_red hq
        omega
theorem nD_map {f : Ct → Ct} (h : ∀ t, dd (f t) = dd t) : ∀ l : List Ct, nD (l.map f) = nD l
  | [] => rfl
  | t :: r => by rw [List.map_cons, nD_cons, nD_cons, nD_map h r, h]
theorem nD_filter (p : Ct → Bool) (l : List Ct) : nD (l.filter p) ≤ nD l := by
  unfold nD
  rw [List.filter_filter, ← List.countP_eq_length_filter, ← List.countP_eq_length_filter]
  exact List.countP_mono_left fun t _ h => by rw [Bool.and_eq_true] at h; exact h.1
theorem nD_zero {l : List Ct} (h : ∀ t ∈ l, t.k = .ge) : nD l = 0 := by
  unfold nD
  rw [List.length_eq_zero_iff, List.filter_eq_nil_iff]
  intro t ht
  rw [h t ht]
  exact Bool.false_ne_true
theorem nD_case (k : Nat) (ts : List Ct) (i : Int) : nD (caseRows k ts i) ≤ nD ts + 1 := by
  unfold caseRows
  split
  · unfold joined
    rw [nD_app, nD_map (f := fun t => ⟨t.k, wo k t.c, t.d⟩) (fun t => rfl), nD_zero (l := ((lowE k ts).map fun l => (uppE k ts).map fun u => joinE k l u).flatten) (fun t ht => ?_)]
    · have := nD_filter (fun t => decide (co k t.ex = 0)) ts
      show nD (othE k ts) + 0 ≤ _
      unfold othE
      omega
    · obtain ⟨l, hl, hx⟩ := List.mem_flatten.mp ht
      obtain ⟨a, ha, rfl⟩ := List.mem_map.mp hl
      obtain ⟨b, hb, rfl⟩ := List.mem_map.mp hx
      rfl
  · split
    · rw [nD_map (f := putE k i) (fun t => rfl)]
      omega
    · rw [solved, nD_cons, nD_map (f := solve1 k _) (fun t => ?_)]
      · show 1 + _ ≤ _
        omega
      · unfold dd solve1
        cases t.k <;> rfl
/-- the numbers that check_numbers looks at -/
def wideC (t : Ct) : Bool := (t.k.mid ++ t.e).any fun x => decide (1000000000000000000 < (x.natAbs : Int))
def wide (ys : List Sm) : Bool := ys.any fun y => y.2.any wideC
def heavy (ys : List Sm) : Bool := (ys.any fun y => decide (40 < (y.1 : Int))) || decide (4000 < (ys.map fun y => (y.2.length : Int) + 1).sum)
theorem sz60 {x : Int} (h : ¬ 1000000000000000000 < (x.natAbs : Int)) : Sz 64 x := by
  show x.natAbs < 2 ^ 64
  have : (2 : Nat) ^ 64 = 18446744073709551616 := by decide
  omega
theorem gn_of {n : Nat} {t : Ct} (ok : t.k.ok) (len : t.c.length = n) (h : wideC t = false) : Gn n t := by
  have hx : ∀ x ∈ t.k.mid ++ t.e, Sz 64 x := fun x hx => sz60 fun z => by
    have := List.any_eq_false.mp h x hx
    exact this (decide_eq_true z)
  refine ⟨ok, len, fun x h => hx x (List.mem_append_right _ (List.mem_append_left _ h)), hx _ (List.mem_append_right _ (List.mem_append_right _ (List.mem_singleton.mpr rfl))), ?_⟩
  cases hk : t.k with
  | ge => trivial
  | eq => trivial
  | div m => exact hx m (List.mem_append_left _ (by rw [hk]; exact List.mem_singleton.mpr rfl))
theorem sum_one {ys : List Sm} {y : Sm} (h : y ∈ ys) : (y.2.length : Int) + 1 ≤ (ys.map fun y => (y.2.length : Int) + 1).sum := by
  induction ys with
  | nil => cases h
  | cons z r ih =>
    rw [List.map_cons, List.sum_cons]
    have nn : 0 ≤ (r.map fun y => (y.2.length : Int) + 1).sum := sum_nn _ fun x hx => by
      obtain ⟨w, _, rfl⟩ := List.mem_map.mp hx
      omega
    rcases List.mem_cons.mp h with rfl | h
    · omega
    · have := ih h
      omega
theorem sum_app (a b : List Sm) : ((a ++ b).map fun y => (y.2.length : Int) + 1).sum = (a.map fun y => (y.2.length : Int) + 1).sum + (b.map fun y => (y.2.length : Int) + 1).sum := by
  rw [List.map_append, List.sum_append]
theorem light_all {ys : List Sm} (h : heavy ys = false) : ∀ y ∈ ys, y.1 ≤ 40 ∧ y.2.length ≤ 4000 := fun y hy => by
  unfold heavy at h
  rw [Bool.or_eq_false_iff] at h
  have h1 := List.any_eq_false.mp h.1 y hy
  rw [decide_eq_true_eq] at h1
  have h2 := of_decide_eq_false h.2
  have h3 := sum_one hy
  omega
theorem light_len {ys : List Sm} (h : heavy ys = false) : ys.length ≤ 4000 := by
  unfold heavy at h
  rw [Bool.or_eq_false_iff] at h
  have h2 := of_decide_eq_false h.2
  have h3 : ∀ l : List Sm, (l.length : Int) ≤ (l.map fun y => (y.2.length : Int) + 1).sum := fun l => by
    induction l with
    | nil => exact Int.le_refl _
    | cons z r ih => rw [List.map_cons, List.sum_cons, List.length_cons]; omega
  have := h3 ys
  omega
theorem cts_zero : ∀ ts : List Ct, cts (ts.map fun t => ((0 : Addr), t)) = ts
  | [] => rfl
  | t :: r => by
    have := cts_zero r
    unfold cts at *
    rw [List.map_cons, List.map_cons, this]
/-- the constraints of what a step makes -/
theorem made_ok {y : Sm} {s : Stp} {ys : List Sm} (g : GS 100 y) (m : ¬ Many y s) (h : madeP y s = some ys) : ys.length ≤ 900 ∧ ∀ z ∈ ys, z.1 ≤ 44 ∧ nD z.2 ≤ nD y.2 + 1 ∧ ∀ t ∈ z.2, t.k.ok ∧ t.c.length = z.1 := by
  obtain ⟨n, ts⟩ := y
  have n4 : n ≤ 44 := g.n4
  have old : ∀ t ∈ ts, t.k.ok ∧ t.c.length = n := fun t ht => ⟨(g.gd t ht).ok, (g.gd t ht).len⟩
  cases s with
  | close =>
    rw [madeP] at h
    split at h
    · cases h
      exact ⟨Nat.zero_le _, fun z hz => by cases hz⟩
    · cases h
  | add ms d =>
    rw [madeP] at h
    cases e : sumOf n ts ms d with
    | none => rw [e] at h; cases h
    | some t =>
      rw [e] at h
      cases h
      have ht : t.k.ok ∧ t.c.length = n ∧ dd t = 0 := by
        have hps : ∀ q ∈ ms.zip ts, q.2.c.length = n := fun q hq => (old q.2 (List.of_mem_zip (show (q.1, q.2) ∈ _ from hq)).2).2
        have lt := totL_len (n := n) (ms.zip ts) (List.replicate (n + 1) 0) (List.length_replicate ..) hps
        unfold sumOf at e
        generalize totL (List.replicate (n + 1) 0) (ms.zip ts) = tt at *
        split at e
        · split at e
          · cases e
          · cases e
            exact ⟨trivial, by show ((tt.take n).map (· / d)).length = n; rw [List.length_map, List.length_take]; omega, rfl⟩
        · cases e
      refine ⟨Nat.le_of_ble_eq_true rfl, fun z hz => ?_⟩
      rw [List.mem_singleton.mp hz]
      refine ⟨n4, by rw [nD_cons, ht.2.2]; omega, fun u hu => ?_⟩
      rcases List.mem_cons.mp hu with rfl | hu
      · exact ⟨ht.1, ht.2.1⟩
      · exact old u hu
  | split xs =>
    rw [madeP] at h
    split at h
    · rename_i e
      dsimp only at e
      cases h
      have hl : (xs.take n).length = n := by rw [List.length_take]; omega
      refine ⟨Nat.le_of_ble_eq_true rfl, fun z hz => ?_⟩
      rcases List.mem_cons.mp hz with rfl | hz
      · refine ⟨n4, by rw [nD_cons]; show 0 + _ ≤ _; dsimp only; omega, fun u hu => ?_⟩
        rcases List.mem_cons.mp hu with rfl | hu
        · exact ⟨trivial, hl⟩
        · exact old u hu
      · rw [List.mem_singleton.mp hz]
        refine ⟨n4, by rw [nD_cons]; show 0 + _ ≤ _; dsimp only; omega, fun u hu => ?_⟩
        rcases List.mem_cons.mp hu with rfl | hu
        · exact ⟨trivial, by show ((xs.take n).map _).length = n; rw [List.length_map]; exact hl⟩
        · exact old u hu
    · cases h
  | cases k =>
    rw [madeP] at h
    split at h
    · rename_i e
      dsimp only at e
      cases h
      have m1 : countC k ts ≤ 200 := Int.not_lt.mp fun z => m ⟨e, .inl z⟩
      refine ⟨by rw [List.length_map, List.length_range]; dsimp only; omega, fun z hz => ?_⟩
      obtain ⟨i, hi, rfl⟩ := List.mem_map.mp hz
      rw [List.mem_range] at hi
      dsimp only at hi ⊢
      refine ⟨by omega, ?_, ?_⟩
      · have h1 := nD_rrows (n - 1) (caseRows k ts (i : Int)) []
        have h2 := nD_case k ts (i : Int)
        change _ ≤ 0 + _ at h1
        omega
      · have wf := case_wf (n := n) (k := k) (rs := ts.map fun t => (0, t)) (fun r hr => by
          obtain ⟨t, ht, rfl⟩ := List.mem_map.mp hr
          exact g.gd t ht) (by rw [cts_zero]; exact g.nd) e n4 (i := (i : Int)) (by omega) (by rw [cts_zero]; omega) (by omega)
        rw [cts_zero] at wf
        exact rrows_mem (n - 1) (fun t => t.k.ok ∧ t.c.length = n - 1) (caseRows k ts (i : Int)) [] (fun t ht u hu => by
          have w := (wf t ht).red hu
          exact ⟨w.ok, w.len⟩) (fun t ht => by cases ht)
    · cases h
theorem made_gs {c : Nat} {y : Sm} {s : Stp} {ys r : List Sm} (hc : c ≤ 100) (g : GS c y) (m : ¬ Many y s) (h : madeP y s = some ys) (hv : heavy (ys ++ r) = false) (w : wide ys = false) : ∀ z ∈ ys, GS (c + 1) z := fun z hz => by
  obtain ⟨_, h2⟩ := made_ok ⟨g.gd, g.nr, Nat.le_trans g.nd hc, g.n4⟩ m h
  obtain ⟨h3, h4, h5⟩ := h2 z hz
  have h6 := light_all hv z (List.mem_append_left _ hz)
  have h7 := List.any_eq_false.mp w z hz
  rw [Bool.not_eq_true] at h7
  have h8 := g.nd
  refine ⟨fun t ht => gn_of (h5 t ht).1 (h5 t ht).2 ?_, by omega, by omega, h3⟩
  have := List.any_eq_false.mp h7 t ht
  rwa [Bool.not_eq_true] at this
/-! ### steps one after another -/
inductive Rs where
  | ok (ys : List Sm)
  | fail (i : Nat)
  | many
  | great
open Classical in
noncomputable def runP : List Sm → List Stp → Nat → Rs
  | left, [], _ => .ok left
  | [], _ :: _, i => .fail i
  | y :: r, s :: ss, i => if Many y s then .many else match madeP y s with
    | none => .fail i
    | some ys => if heavy (ys ++ r) = true then .many else if wide ys = true then .great else runP (ys ++ r) ss (i + 1)
def OutI (C : Addr) (H : Hp) (E : XK) (i : Nat) : Prop := ∀ H' d, Same H H' → H d = none → H' d = some (.xd [("index", .int (i : Int))]) → E (.ref C) (some d) H'
/-- the end of a run, wished -/
def Fin (A : Ad) (K : PySem.W.Frag) (H : Hp) (Q : VK) (E : XK) : Rs → Prop
  | .ok ys => ∀ H' p bs, Same H H' → SqT K H' p (rsv bs) → RsAll (SyN A K) H' bs → bs.map (·.2) = ys → Q (.ref p) H'
  | .fail i => OutI A.xC H E i
  | .many => ∀ H', Same H H' → E (.ref A.xM) none H'
  | .great => ∀ H', Same H H' → E (.ref A.xG) none H'
theorem OutI.same {C : Addr} {H H1 : Hp} {E : XK} {i : Nat} (h : OutI C H E i) (s : Same H H1) : OutI C H1 E i := fun H' d s' n e => h H' d (s.trans s') (by
  cases z : H d with
  | none => rfl
  | some o => rw [s _ _ z] at n; cases n) e
theorem Fin.same {A : Ad} {K : PySem.W.Frag} {H H1 : Hp} {Q : VK} {E : XK} {r : Rs} (h : Fin A K H Q E r) (s : Same H H1) : Fin A K H1 Q E r := by
  cases r with
  | ok ys => exact fun H' p bs s' => h H' p bs (s.trans s')
  | fail i => exact OutI.same h s
  | many => exact fun H' s' => h H' (s.trans s')
  | great => exact fun H' s' => h H' (s.trans s')
theorem raise_finI {C : Addr} {H : Hp} {E : XK} {i : Nat} (hi : i < 1000000000) (q : OutI C H E i) (a : Addr) (na : H a = none) : sp_init C [.ref a, .int (i : Int)] (upd H a (exo a C none))
    (fun v H2 => v = .non ∧ ∃ (d : Addr), H2 a = some (exo a C (some d)) ∧ ∃ (fs : List (Str × V)), H2 d = some (exd d fs) ∧ H d = none ∧ E (.ref C) (some d) (upd (L2.del H2 a) d (.xd fs))) (fun _ _ _ => False) := by
  refine ⟨a, i, rfl, upd_same, hi, fun H' d hda hd e1 e2 e3 => ?_⟩
  have hd0 : H d = none := by
    rw [upd_ne hda] at hd
    exact hd
  refine ⟨rfl, d, e1, _, e2, hd0, q _ d (fun b o z => ?_) hd0 upd_same⟩
  have hba := ne_of_none z na
  have hbd := ne_of_none z hd0
  rw [upd_ne hbd, del_ne hba, e3 b hba hbd, upd_ne hba]
  exact z
def sp_check_left (A : Ad) (K : PySem.W.Frag) : Sp := fun vs H Q E => ∃ (t : Addr) (bs : List (Addr × Sm)), vs = [.ref t] ∧ SqT K H t (rsv bs) ∧ RsAll (SyN A K) H bs ∧ bs.length ≤ 100000 ∧ (heavy (bs.map (·.2)) = true → ∀ H', Same H H' → E (.ref A.xM) none H') ∧ (heavy (bs.map (·.2)) = false → ∀ H', Same H H' → Q .non H')
def sp_check_numbers (A : Ad) (K : PySem.W.Frag) : Sp := fun vs H Q E => ∃ (t : Addr) (bs : List (Addr × Sm)), vs = [.ref t] ∧ SqT K H t (rsv bs) ∧ RsAll (SyN A K) H bs ∧ (∀ b ∈ bs, ∀ u ∈ b.2.2, u.c.length ≤ 90) ∧ (wide (bs.map (·.2)) = true → ∀ H', Same H H' → E (.ref A.xG) none H') ∧ (wide (bs.map (·.2)) = false → ∀ H', Same H H' → Q .non H')
def sp_left_behind (A : Ad) (K : PySem.W.Frag) : Sp := fun vs H Q E => ∃ (l0 sts : Addr) (bs : List (Addr × Sm)) (ss : List (Addr × Stp)) (c : Nat), vs = [.ref l0, .ref sts, .ref A.f_made_by] ∧ SqT K H l0 (rsv bs) ∧ RsAll (SyN A K) H bs ∧ bs.length ≤ 5000 ∧ (∀ b ∈ bs, GS c b.2) ∧ SqT K H sts (rsv ss) ∧ RsAll (StM K) H ss ∧ (∀ s ∈ ss, StB s.2) ∧ c + ss.length ≤ 101 ∧
  Fin A K H Q E (runP (bs.map (·.2)) (ss.map (·.2)) 0)
def sp_remaining (A : Ad) (K : PySem.W.Frag) : Sp := fun vs H Q E => ∃ (a sts : Addr) (y : Sm) (ss : List (Addr × Stp)) (c : Nat), vs = [.ref a, .ref sts] ∧ SyN A K H a y ∧ GS c y ∧ SqT K H sts (rsv ss) ∧ RsAll (StM K) H ss ∧ (∀ s ∈ ss, StB s.2) ∧ c + ss.length ≤ 101 ∧ Fin A K H Q E (runP [y] (ss.map (·.2)) 0)
def sp_apply_step (A : Ad) (K : PySem.W.Frag) : Sp := fun vs H Q E => ∃ (a st : Addr) (y : Sm) (s : Stp), vs = [.ref a, .ref st] ∧ SyN A K H a y ∧ GS 100 y ∧ StM K H st s ∧ StB s ∧ Fin A K H Q E (runP [y] [s] 0)
section
variable {w : World} {K : PySem.W.Frag} {mg : Str → Option Value} {base : Heap} {A : Ad}
theorem ok_check_left (T : Txt K mg A) : FnOk P w K mg base (L2N.CX P w) 3 A.f_check_left A.d_check_left ["systems"] (sp_check_left A K) := by
  have G_System_weight := ok_System_weight (w := w) (base := base) T
  refine T.F_check_left.okN sc_check_left (fun vs H Q E h => ?_) (fun cdv A' outer s H vs Q E hr h => ?_)
  · obtain ⟨t, bs, rfl, _⟩ := h
    rfl
  · obtain ⟨t, bs, rfl, hT, hB, hl, qh, q⟩ := h
    refine ⟨_, (pss_cons (ps_if (pt_val (pe_callB (cr_any rfl) (by rfl) T.b_any (by decide +kernel) (pa_cons (pe_lc (own := [("system", 1)]) (by rfl) sc_check_left.nd (pi_tup (pv 0)) (blkOk_by (own := [("system", 1)]) (N := ["systems", "system"]) (sc := defScope s_check_left) (by decide +kernel)) (fun _ _ _ _ _ => (pg_name (i := 1) sc_check_left.nd rfl (Or.inl rfl) (Or.inr rfl))) (fun _ _ _ _ _ => pts_nil) (fun _ _ _ _ _ => (pe_cmpR op_gt (pe_fldK (K := K) (pv 1) (by rfl) (by rfl)) (pe_glob (v := .int 40) rfl T.g_MOST_VARIABLES ⟨_, rfl⟩) (nomark _)))) pa_nil))) 
      (pss_one (L2N.ps_raise rfl (L2N.takes_of rfl rfl rfl rfl) (L2N.pmk_own PySem.F.excBase_ValueError T.tm.q T.tm.g T.tm.kp (raises_own T.tm.r1 T.tm.r2) (by rfl)))) pss_nil) 
    (pss_one (ps_if (pt_cmpR op_gt (pe_callB (cr_sum rfl) (by rfl) T.b_sum (by decide +kernel) (pa_cons (pe_lc (own := [("system", 1)]) (by rfl) sc_check_left.nd (pi_tup (pv 0)) (blkOk_by (own := [("system", 1)]) (N := ["systems", "system"]) (sc := defScope s_check_left) (by decide +kernel)) (fun _ _ _ _ _ => (pg_name (i := 1) sc_check_left.nd rfl (Or.inl rfl) (Or.inr rfl))) (fun _ _ _ _ _ => pts_nil) (fun _ _ _ _ _ => (pe_prop (pv 1) T.cl_System T.pr_System_weight G_System_weight hr T.B_System_weight .nil pass0 rfl))) pa_nil)) (pe_glob (v := .int 4000) rfl T.g_MOST_WEIGHT ⟨_, rfl⟩) (nomark _)) 
      (pss_one (L2N.ps_raise rfl (L2N.takes_of rfl rfl rfl rfl) (L2N.pmk_own PySem.F.excBase_ValueError T.tm.q T.tm.g T.tm.kp (raises_own T.tm.r1 T.tm.r2) (by rfl)))) pss_nil))), ?_⟩
    walk_at "wp"
    refine ⟨⟨_, hT⟩, fun D hD => ?_⟩
    have lsv : (rsv bs).length = bs.length := by rw [rsv, List.length_map]
    refine lc_ys (walk_tup (xs := rsv bs)) (bs.map fun b => V.bl (decide (40 < (b.2.1 : Int)))) hD (by omega) (by rw [List.length_map, lsv]) (fun H' s => sameT s hT) yat_same (fun i x y H1 H2 R hi hy s1 yy k => ?_) (fun H5 s5 e5 => ?_)
    · obtain ⟨rfl, e⟩ := yat_at yy
      rw [lsv] at hi
      rw [rsv, List.getElem?_map, List.getElem?_eq_getElem hi] at e
      cases e
      rw [List.getElem?_map, List.getElem?_eq_getElem hi] at hy
      cases hy
      obtain ⟨dy, rb, ss, sy, es⟩ := syn_stay.same (hB _ (List.getElem_mem hi)) s1
      generalize bs[i] = b at *
      walk_at "wp"
      exact ⟨A.C_System, dy, _, sy.ob, T.cl_System, T.na_System_variables, _, look_var, _, rfl, k _ (Same.refl _)⟩
    · have h40 : (bs.map fun b => decide (40 < (b.2.1 : Int))).any id = (bs.map (·.2)).any fun y => decide (40 < (y.1 : Int)) := by rw [List.any_map, List.any_map]; rfl
      refine ⟨D, bs.map fun b => decide (40 < (b.2.1 : Int)), rfl, ?_, ?_⟩
      · rw [List.map_map]
        exact SqL.of e5
      · rw [h40]
        refine ⟨_, rfl, ?_⟩
        unfold heavy at qh q
        cases h4 : (bs.map (·.2)).any fun y => decide (40 < (y.1 : Int)) with
        | true =>
          rw [if_pos rfl]
          rw [h4] at qh
          exact qh rfl _ s5
        | false =>
          rw [if_neg (by decide)]
          rw [h4, Bool.false_or] at qh q
          have hT5 := sameT s5 hT
          refine ⟨⟨_, hT5⟩, fun D2 hD2 => ?_⟩
          refine lc_ys (walk_tup (xs := rsv bs)) (bs.map fun b => V.int ((b.2.2.length : Int) + 1)) hD2 (by omega) (by rw [List.length_map, lsv]) (fun H' s => sameT s hT5) yat_same (fun i x y H1 H2 R hi hy s1 yy k => ?_) (fun H6 s6 e6 => ?_)
          · obtain ⟨rfl, e⟩ := yat_at yy
            rw [lsv] at hi
            rw [rsv, List.getElem?_map, List.getElem?_eq_getElem hi] at e
            cases e
            rw [List.getElem?_map, List.getElem?_eq_getElem hi] at hy
            cases hy
            obtain ⟨dy, rb, ss, sy, es⟩ := syn_stay.same (hB _ (List.getElem_mem hi)) (s5.trans s1)
            generalize bs[i] = b at *
            have el : (ss.length : Int) = b.2.2.length := by rw [← es, cts, List.length_map]
            walk_at "wp"
            refine ⟨dy, _, sy.ob, b.1, dy, rb, b.2.1, ss, rfl, sy, ?_⟩
            rw [el]
            exact k _ (Same.refl _)
          · have hs : (bs.map fun b => (b.2.2.length : Int) + 1).sum = ((bs.map (·.2)).map fun y => (y.2.length : Int) + 1).sum := by rw [List.map_map]; rfl
            refine ⟨D2, bs.map fun b => (b.2.2.length : Int) + 1, rfl, ?_, _, rfl, ?_⟩
            · rw [List.map_map]
              exact SqL.of e6
            · rw [hs]
              by_cases hw : 4000 < ((bs.map (·.2)).map fun y => (y.2.length : Int) + 1).sum
              · rw [if_pos (decide_eq_true hw)]
                exact qh (decide_eq_true hw) _ (s5.trans s6)
              · rw [if_neg (by rw [decide_eq_true_eq]; exact hw)]
                exact q (decide_eq_false hw) _ (s5.trans s6)
theorem ok_check_numbers (T : Txt K mg A) : FnOk P w K mg base (L2N.CX P w) 1 A.f_check_numbers A.d_check_numbers ["systems"] (sp_check_numbers A K) := by
  refine T.F_check_numbers.okN sc_check_numbers (fun vs H Q E h => ?_) (fun cdv A' outer s H vs Q E hr h => ?_)
  · obtain ⟨t, bs, rfl, _⟩ := h
    rfl
  · obtain ⟨t, bs, rfl, hT, hB, hu, qh, q⟩ := h
    refine ⟨_, (pss_one (ps_for (passes_of rfl) rfl (pi_tup (pv 0)) (pg_name (i := 1) sc_check_numbers.nd rfl (Or.inl rfl)) 
      (pss_one (ps_for (passes_of rfl) rfl (pi_tup (pe_fld (pv 1) rfl)) (pg_name (i := 2) sc_check_numbers.nd rfl (Or.inl rfl)) 
        (pss_one (ps_if (pt_val (pe_callB (cr_any rfl) (by rfl) T.b_any (by decide +kernel) (pa_cons (pe_lc (own := [("number", 3)]) (by rfl) sc_check_numbers.nd (pi_tup (pe_op op_catA (pe_slice sl_tupA (pv 2) (po_some pe_int) (po_some (pe_un un_neg pe_int))) (pe_ix ix_tup (pv 2) (pe_un un_neg pe_int) (fun _ _ => rfl)))) (blkOk_by (own := [("number", 3)]) (N := ["systems", "system", "row", "number"]) (sc := defScope s_check_numbers) (by decide +kernel)) (fun _ _ _ _ _ => (pg_name (i := 3) sc_check_numbers.nd rfl (Or.inl rfl) (Or.inr rfl))) (fun _ _ _ _ _ => pts_nil) (fun _ _ _ _ _ => (pe_cmpR op_gt (pe_callB call_abs (by rfl) T.b_abs (by decide +kernel) (pa_cons (pv 3) pa_nil)) (pe_glob (v := .int 1000000000000000000) rfl T.g_GREATEST ⟨_, rfl⟩) (nomark _)))) pa_nil))) 
          (pss_one (L2N.ps_raise rfl (L2N.takes_of rfl rfl rfl rfl) (L2N.pmk_own PySem.F.excBase_ValueError T.tg.q T.tg.g T.tg.kp (raises_own T.tg.r1 T.tg.r2) (by rfl)))) pss_nil)))))), ?_⟩
    walk_at "wp"
    refine ⟨⟨_, hT⟩, ?_⟩
    have lsv : (rsv bs).length = bs.length := by rw [rsv, List.length_map]
    have wOf : ∀ b ∈ bs, b.2.2.any wideC = true → wide (bs.map (·.2)) = true := fun b hb h => List.any_eq_true.mpr ⟨b.2, List.mem_map.mpr ⟨b, hb, rfl⟩, h⟩
    refine loop_it (walk_tup (xs := rsv bs)) (fun i σ H' => Same H H' ∧ (∀ j (hj : j < bs.length), j < i → bs[j].2.2.any wideC = false) ∧ ∃ v1 v2, σ = [some (.ref t), v1, v2, none]) ⟨Same.refl _, (fun j _ h => absurd h (by omega)), _, _, rfl⟩ (fun i σ H' _ pw => sameT pw.1 hT) ?_ ?_
    · rintro i x σ H1 H2 hi ⟨s1, no, v1, v2, rfl⟩ yy
      obtain ⟨rfl, e⟩ := yat_at yy
      rw [lsv] at hi
      rw [rsv, List.getElem?_map, List.getElem?_eq_getElem hi] at e
      cases e
      have hmem : bs[i] ∈ bs := List.getElem_mem hi
      obtain ⟨dy, rb, ss, sy, es⟩ := syn_stay.same (hB _ hmem) s1
      have w1 := wOf _ hmem
      have hub := hu _ hmem
      have noi : ∀ (z : bs[i].2.2.any wideC = false) j (hj : j < bs.length), j < i + 1 → bs[j].2.2.any wideC = false := fun z j hj h => by
        by_cases hji : j = i
        · subst hji
          exact z
        · exact no j hj (by omega)
      generalize bs[i] = b at *
      rw [← es] at w1 hub noi
      walk_at "wp"
      refine ⟨A.C_System, dy, _, sy.ob, T.cl_System, T.na_System_rows, _, look_rows, rb, rfl, ⟨_, sy.rt⟩, ?_⟩
      have lss : (rv ss).length = ss.length := by rw [rv, List.length_map]
      refine loop_it (walk_tup (xs := rv ss)) (fun j σ H' => Same H2 H' ∧ ((cts ss).take j).any wideC = false ∧ ∃ v2, σ = [some (.ref t), some (.ref b.1), v2, none]) ⟨Same.refl _, rfl, _, rfl⟩ (fun i σ H' _ pw => sameT pw.1 sy.rt) ?_ ?_
      · rintro j x σ H3 H4 hj ⟨s3, nw, v2, rfl⟩ yy
        obtain ⟨rfl, e⟩ := yat_at yy
        rw [lss] at hj
        rw [rv, List.getElem?_map, List.getElem?_eq_getElem hj] at e
        cases e
        have hmr : ss[j] ∈ ss := List.getElem_mem hj
        have et : (cts ss).take (j + 1) = (cts ss).take j ++ [ss[j].2] := by
          rw [List.take_succ_eq_append_getElem (by rw [cts, List.length_map]; exact hj)]
          simp [cts]
        rw [et, List.any_append, nw]
        generalize ss[j] = r at *
        have hc := hub r.2 (List.mem_map.mpr ⟨r, hmr, rfl⟩)
        obtain ⟨b', b1, b2⟩ := (sy.ok r hmr).same s3
        walk_at "wp"
        refine sl_mid b1 fun H5 p5 s5 h5 => ?_
        refine ⟨_, sameT s5 b1, _, kv_last, ?_⟩
        have le : r.2.e.length ≤ 91 := by rw [Ct.e, List.length_append, List.length_singleton]; omega
        have lm : r.2.k.mid.length ≤ 1 := by cases r.2.k <;> simp [Kd.mid]
        refine cat_sm h5 (sameT s5 b2) (by rw [List.length_map, List.length_map]; omega) fun H6 p6 s6 h6 => ?_
        rw [← List.map_append] at h6
        refine ⟨p6, rfl, ⟨_, h6⟩, fun D hD => ?_⟩
        refine lc_yat (walk_tup (xs := (r.2.k.mid ++ r.2.e).map V.int)) rfl (fun v => match v with | .int x => .bl (decide (1000000000000000000 < (x.natAbs : Int))) | v => v) hD (by rw [List.length_map, List.length_append]; omega) (fun H' s => sameT s h6) (fun x H' R hx s1 k => ?_) (fun H7 s7 e7 => ?_)
        · obtain ⟨z, hz, rfl⟩ := List.mem_map.mp hx
          walk_at "wp"
          rw [abs_if]
          exact k _ (Same.refl _)
        · refine ⟨D, (r.2.k.mid ++ r.2.e).map fun x => decide (1000000000000000000 < (x.natAbs : Int)), rfl, ?_, ?_⟩
          · rw [List.map_map] at e7 ⊢
            exact SqL.of e7
          · rw [List.any_map, show (r.2.k.mid ++ r.2.e).any (id ∘ fun x => decide (1000000000000000000 < (x.natAbs : Int))) = wideC r.2 from rfl]
            refine ⟨_, rfl, ?_⟩
            have s27 := ((s3.trans s5).trans s6).trans s7
            cases hw : wideC r.2 with
            | true =>
              rw [if_pos rfl]
              exact qh (w1 (List.any_eq_true.mpr ⟨r.2, List.mem_map.mpr ⟨r, hmr, rfl⟩, hw⟩)) _ (s1.trans s27)
            | false =>
              rw [if_neg (by decide)]
              exact ⟨s27, by simp [hw], _, rfl⟩
      · rintro σ H3 ⟨s3, nw, v2, rfl⟩
        rw [lss, List.take_of_length_le (by rw [cts, List.length_map]; exact Nat.le_refl _)] at nw
        exact ⟨s1.trans s3, noi nw, _, _, rfl⟩
    · rintro σ H1 ⟨s1, no, v1, v2, rfl⟩
      walk_at "wp"
      refine q (List.any_eq_false.mpr fun y hy => ?_) _ s1
      obtain ⟨b, hb, rfl⟩ := List.mem_map.mp hy
      obtain ⟨j, hj, rfl⟩ := List.getElem_of_mem hb
      rw [no j hj (by rw [lsv]; exact hj)]
      decide
theorem ok_left_behind (T : Txt K mg A) : FnOk P w K mg base (L2N.CX P w) 11 A.f_left_behind A.d_left_behind ["left", "steps", "make"] (sp_left_behind A K) := by
  have G_check_left := ok_check_left (w := w) (base := base) T
  have G_check_numbers := ok_check_numbers (w := w) (base := base) T
  have G_made_by := ok_made_by (w := w) (base := base) T
  refine T.F_left_behind.okN sc_left_behind (fun vs H Q E h => ?_) (fun cdv A' outer s H vs Q E hr h => ?_)
  · obtain ⟨l0, sts, bs, ss, c, rfl, _⟩ := h
    rfl
  · obtain ⟨l0, sts, bs, ss, c, rfl, hL0, hB0, hl0, hG0, hS, hSs, hSb, hc, hF⟩ := h
    refine ⟨_, (pss_cons (ps_for (passes_of rfl) rfl (pi_enumT (by rfl) T.b_enumerate (pa_cons (pv 1) pa_nil)) (pg_tup rfl (pgs_cons (pg_name (i := 3) sc_left_behind.nd rfl (Or.inl rfl)) (pgs_cons (pg_name (i := 4) sc_left_behind.nd rfl (Or.inl rfl)) pgs_nil))) 
      (pss_cons (ps_set (i := 5) sc_left_behind.nd rfl (Or.inl rfl) (pe_ifExp (pt_cmpR op_gt (pe_callB call_len_seq (by rfl) T.b_len (by decide +kernel) (pa_cons (pv 0) pa_nil)) pe_int (nomark _)) (pe_callLS (i := 2) G_made_by hr rfl (Or.inl rfl) T.F_made_by.kp T.B_made_by (fun σ => L2N.passAt (L2N.takes_of rfl rfl rfl rfl) σ) (pa_cons (pe_ix ix_tup (pv 0) pe_int (fun _ _ => rfl)) (pa_cons (pv 4) pa_nil))) pe_non)) 
      (pss_cons (ps_if (pt_cmpR op_isN (pv 5) pe_non (nomark _)) 
        (pss_one (L2N.ps_raise rfl (L2N.takes_of rfl rfl rfl rfl) (pmkN_own T.tf.T T.tf.iC T.tf.tI (ok_init T.tf) (hr.mono (by decide)) T.tf.bd pass0 (by rfl) T.tf.g (pa_cons (pv 3) pa_nil)))) pss_nil) 
      (pss_cons (ps_set (i := 0) sc_left_behind.nd rfl (Or.inl rfl) (pe_op op_catA (pv 5) (pe_slice sl_tupA (pv 0) (po_some pe_int) po_none))) 
      (pss_cons (ps_expr (pe_callS G_check_left (hr.mono (by decide)) (by rfl) T.g_check_left T.F_check_left.kp T.B_check_left (fun σ => L2N.passAt (L2N.takes_of rfl rfl rfl rfl) σ) (pa_cons (pv 0) pa_nil))) 
      (pss_one (ps_expr (pe_callS G_check_numbers (hr.mono (by decide)) (by rfl) T.g_check_numbers T.F_check_numbers.kp T.B_check_numbers (fun σ => L2N.passAt (L2N.takes_of rfl rfl rfl rfl) σ) (pa_cons (pv 5) pa_nil))))))))) 
    (pss_one (ps_ret (pv 0)))), ?_⟩
    walk_at "wp"
    refine ⟨rsv ss, hS, ?_⟩
    have lsv : (rsv ss).length = ss.length := by rw [rsv, List.length_map]
    refine loop_it (walk_enT (xs := rsv ss)) (fun i σ H' => Same H H' ∧ ∃ p bs v3 v4 v5, SqT K H' p (rsv bs) ∧ RsAll (SyN A K) H' bs ∧ bs.length ≤ 5000 ∧ (∀ b ∈ bs, GS (c + i) b.2) ∧ Fin A K H' Q E (runP (bs.map (·.2)) ((ss.map (·.2)).drop i) i) ∧ σ = [some (.ref p), some (.ref sts), some (.ref A.f_made_by), v3, v4, v5]) ⟨Same.refl _, l0, bs, none, none, none, hL0, hB0, hl0, hG0, hF, rfl⟩ (fun i σ H' _ pw => sameT pw.1 hS) ?_ ?_
    · rintro i x σ H1 H2 hi ⟨s1, p, bs, v3, v4, v5, hp, hB, hl, hG, hF, rfl⟩ ⟨t, x, y, rfl, nt, rfl, e1, e2⟩
      rw [lsv] at hi
      dsimp only at e1 e2
      cases e1
      rw [rsv, List.getElem?_map, List.getElem?_eq_getElem hi] at e2
      cases e2
      have hm := List.getElem_mem hi
      have ed : (ss.map (·.2)).drop i = ss[i].2 :: (ss.map (·.2)).drop (i + 1) := by
        rw [List.drop_eq_getElem_cons (by rw [List.length_map]; exact hi), List.getElem_map]
      rw [ed] at hF
      have sT := same_upd (H := H1) (o := .tup [V.int ((i : Nat) : Int), V.ref ss[i].1]) nt
      have hSt := stm_stay.same (hSs _ hm) (s1.trans sT)
      have hSB := hSb _ hm
      generalize ss[i] = st at *
      have eT : upd H1 t (.tup [V.int ((i : Nat) : Int), V.ref st.1]) t = some (.tup [V.int ((i : Nat) : Int), V.ref st.1]) := upd_same
      have s2 := s1.trans sT
      have hp := sameT sT hp
      have hB := hB.same syn_stay sT
      have hF := hF.same sT
      generalize upd H1 t (.tup [V.int ((i : Nat) : Int), V.ref st.1]) = H2 at *
      walk_at "wp"
      refine ⟨_, .inl (.inl eT), ?_⟩
      walk_at "wp"
      refine ⟨rfl, _, .inr hp, ?_⟩
      cases bs with
      | nil =>
        rw [if_neg (by decide)]
        exact ⟨by decide, fun b nb => raise_finI (by omega) hF b nb⟩
      | cons b r =>
        rw [if_pos (by rw [rsv, List.length_map, List.length_cons]; exact decide_eq_true (by omega))]
        have hb := hB b List.mem_cons_self
        have gb := hG b List.mem_cons_self
        have gb' : GS 100 b.2 := ⟨gb.gd, gb.nr, Nat.le_trans gb.nd (by omega), gb.n4⟩
        rw [List.map_cons, runP] at hF
        refine ⟨_, hp, V.ref b.1, (show atI (rsv (b :: r)) ((0 : Nat) : Int) = some (V.ref b.1) from atI_nat rfl), b.1, st.1, b.2, st.2, rfl, hb, gb', hSt, hSB, fun m H' s => ?_, fun m e H' s => ?_, fun m ys e H3 p3 cs s3 h3 hC ec => ?_⟩
        · rw [if_pos m] at hF
          exact hF H' s
        · rw [if_neg m, e] at hF
          rw [if_pos (by decide)]
          exact ⟨by decide, fun b nb => raise_finI (by omega) (OutI.same hF s) b nb⟩
        · rw [if_neg m, e] at hF
          rw [if_neg (by simp)]
          dsimp only at hF
          obtain ⟨m1, m2⟩ := made_ok gb' m e
          have lcs : cs.length ≤ 900 := by rw [← List.length_map (f := (·.2)), ec]; exact m1
          have hp3 := sameT s3 hp
          refine sl_gen hp3 fun H4 p4 s4 h4 => ?_
          have ecut : cutV (rsv (b :: r)) (some 1) none = rsv r := by
            unfold cutV
            rw [show HT.sIx (rsv (b :: r)).length 0 (some 1) = min 1 (rsv (b :: r)).length from HT.sIx_nat _ 0 1, HT.sIx_none, show min 1 (rsv (b :: r)).length = 1 by rw [rsv, List.length_map, List.length_cons]; omega, show rsv (b :: r) = V.ref b.1 :: rsv r from rfl, List.drop_succ_cons, List.drop_zero, List.take_of_length_le (by rw [List.length_cons]; omega)]
          rw [ecut] at h4
          rw [List.length_cons] at hl
          refine cat_sm (sameT s4 h3) h4 (by rw [rsv, List.length_map, rsv, List.length_map]; omega) fun H5 p5 s5 h5 => ?_
          have s35 := s4.trans s5
          have e5 : rsv cs ++ rsv r = rsv (cs ++ r) := by rw [rsv, rsv, rsv, List.map_append]
          rw [e5] at h5
          have hB5 : RsAll (SyN A K) H5 (cs ++ r) := fun x hx => by
            rcases List.mem_append.mp hx with h | h
            · exact syn_stay.same (hC x h) s35
            · exact syn_stay.same (hB x (List.mem_cons_of_mem _ h)) (s3.trans s35)
          have eM : (cs ++ r).map (·.2) = ys ++ r.map (·.2) := by rw [List.map_append, ec]
          refine ⟨p5, cs ++ r, rfl, h5, hB5, by rw [List.length_append]; omega, fun hv H' s => ?_, fun hv H6 s6 => ?_⟩
          · rw [eM] at hv
            rw [if_pos hv] at hF
            exact hF H' ((s3.trans s35).trans s)
          · rw [eM] at hv
            rw [if_neg (by rw [hv]; decide)] at hF
            have s36 := s35.trans s6
            refine ⟨p3, cs, rfl, sameT s36 h3, hC.same syn_stay s36, fun z hz u hu => ?_, fun hw H' s => ?_, fun hw H7 s7 => ?_⟩
            · have h := m2 z.2 (by rw [← ec]; exact List.mem_map.mpr ⟨z, hz, rfl⟩)
              rw [(h.2.2 u hu).2]
              have := h.1
              omega
            · rw [ec] at hw
              rw [if_pos hw] at hF
              exact hF H' ((s3.trans s36).trans s)
            · rw [ec] at hw
              rw [if_neg (by rw [hw]; decide)] at hF
              have s37 := s36.trans s7
              have s57 := s6.trans s7
              refine ⟨(s2.trans s3).trans s37, p5, cs ++ r, sameT s57 h5, hB5.same syn_stay s57, ?_, fun z hz => ?_, ?_, rfl, _, rfl⟩
              · have := light_len hv
                rw [List.length_append, List.length_map] at this
                rw [List.length_append]
                have h9 : ys.length = cs.length := by rw [← ec, List.length_map]
                omega
              · rcases List.mem_append.mp hz with h | h
                · exact made_gs (by omega) gb m e hv hw z.2 (by rw [← ec]; exact List.mem_map.mpr ⟨z, h, rfl⟩)
                · have g := hG z (List.mem_cons_of_mem _ h)
                  exact ⟨g.gd, g.nr, Nat.le_trans g.nd (by omega), g.n4⟩
              · rw [eM]
                exact hF.same (s3.trans s37)
    · rintro σ H1 ⟨s1, p, bs, v3, v4, v5, hp, hB, hl, hG, hF, rfl⟩
      walk_at "wp"
      rw [lsv, List.drop_of_length_le (by rw [List.length_map]; exact Nat.le_refl _)] at hF
      have e : runP (bs.map (·.2)) [] ss.length = .ok (bs.map (·.2)) := by cases bs <;> rfl
      rw [e] at hF
      exact hF H1 p bs (Same.refl _) hp hB rfl
theorem ok_remaining (T : Txt K mg A) : FnOk P w K mg base (L2N.CX P w) 12 A.f_remaining A.d_remaining ["system", "steps"] (sp_remaining A K) := by
  have G_left_behind := ok_left_behind (w := w) (base := base) T
  refine T.F_remaining.okN sc_remaining (fun vs H Q E h => ?_) (fun cdv A' outer s H vs Q E hr h => ?_)
  · obtain ⟨a, sts, y, ss, c, rfl, _⟩ := h
    rfl
  · obtain ⟨a, sts, y, ss, c, rfl, hY, hG, hS, hSs, hSb, hc, hF⟩ := h
    refine ⟨_, (pss_one (ps_ret (pe_callS G_left_behind hr (by rfl) T.g_left_behind T.F_left_behind.kp T.B_left_behind (fun σ => L2N.passAt (L2N.takes_of rfl rfl rfl rfl) σ) (pa_cons (pe_tup (pa_cons (pv 0) pa_nil)) (pa_cons (pv 1) (pa_cons (pe_glob (v := .ref A.f_made_by) rfl T.g_made_by rfl) pa_nil)))))), ?_⟩
    walk_at "wp"
    refine ⟨by decide, fun p0 n0 => ?_⟩
    have s0 := same_upd (o := .tup [V.ref a]) n0
    exact ⟨p0, sts, [(a, y)], ss, c, rfl, SqT.of upd_same, fun r hr => by rw [List.mem_singleton.mp hr]; exact syn_stay.same hY s0, Nat.le_of_ble_eq_true rfl, fun r hr => by rw [List.mem_singleton.mp hr]; exact hG, sameT s0 hS, hSs.same stm_stay s0, hSb, hc, hF.same s0⟩
theorem ok_apply_step (T : Txt K mg A) : FnOk P w K mg base (L2N.CX P w) 13 A.f_apply_step A.d_apply_step ["system", "step"] (sp_apply_step A K) := by
  have G_remaining := ok_remaining (w := w) (base := base) T
  refine T.F_apply_step.okN sc_apply_step (fun vs H Q E h => ?_) (fun cdv A' outer s H vs Q E hr h => ?_)
  · obtain ⟨a, st, y, s, rfl, _⟩ := h
    rfl
  · obtain ⟨a, st, y, s, rfl, hY, hG, hS, hSb, hF⟩ := h
    refine ⟨_, (pss_one (ps_ret (pe_callS G_remaining hr (by rfl) T.g_remaining T.F_remaining.kp T.B_remaining (fun σ => L2N.passAt (L2N.takes_of rfl rfl rfl rfl) σ) (pa_cons (pv 0) (pa_cons (pe_tup (pa_cons (pv 1) pa_nil)) pa_nil))))), ?_⟩
    walk_at "wp"
    refine ⟨by decide, fun p0 n0 => ?_⟩
    have s0 := same_upd (o := .tup [V.ref st]) n0
    exact ⟨a, p0, y, [(st, s)], 100, rfl, syn_stay.same hY s0, hG, SqT.of upd_same, fun r hr => by rw [List.mem_singleton.mp hr]; exact stm_stay.same hS s0, fun r hr => by rw [List.mem_singleton.mp hr]; exact hSb, Nat.le_refl _, hF.same s0⟩
end
local macro_rules | `(tactic| walk_at "wp") => `(tactic| simp only [tSeq, tCKw, tAsg, tPar, gName, gTup, gCons, gNil, tVar, tC, tOp, tUn, rI, rI0, rU, tCB, tCons, tNil, tIfS, tRet, tRetN, tNext, tNever, test_eq, tB, tTup, tLst, tCall, tCallS, tCallLS, tMakeS, tAddS, tChain, rNotInO, rInO, iEnumT, iEnum, rIsnotB, rIsB, iZipM, tMkO, tIf, tAndV, tOrV, tNotV, tNot, tAnd, tOr, rEq, rNe, scal_ii, scal_ss, scal_bb, dec_ii, dec_ss, dec_bb, for_eq, lc_eq, lc2_eq, while_eq, tDrop, tYes, iList, iTup, iOr, tDNewN, tNSet, rNSet, sFld, tFld, tMake, tProp, tMeth, cxP, cxW, iStr, iRng1, iRng2, RZ.iZipA, L2.start, rIxL, rIxT, rIxS, rSlS, cxK, tSl, tPart, tNoPart, tBM, tBM0, rAppend, rExtend, rRepS, rGcd, s_ge_eq, s_ge_div, s_eq_ge, s_eq_div, s_div_ge, s_div_eq, gSub, rSetL, tAug, ipI, rAdd, rSub, tM1, tM0,
  List.map_cons, List.map_nil, List.length_cons, List.length_nil, List.cons_append, List.nil_append, List.append_nil, List.getElem?_cons_succ, List.getElem?_cons_zero, List.set_cons_succ, List.set_cons_zero, Nat.reduceAdd, Nat.reduceSub, List.replicate_succ, List.replicate_zero, wipe,
  Option.some.injEq, V.int.injEq, V.str.injEq, sgn_eq, V.ref.injEq, V.bl.injEq, exists_eq_left, exists_eq_left', exists_and_left, exists_eq_right, List.cons.injEq, and_true, true_and, ex_bl, ex_int, exists_const, Nat.zero_add, Int.toNat_natCast, Int.zero_add, and_assoc, reduceCtorEq, false_and, and_false, exists_false, or_false, false_or, eq_self, decide_true, decide_false, ite_true, ite_false, if_true, if_false, Bool.false_eq_true, Bool.not_true, Bool.not_false, ↓reduceIte])
theorem sz_cell {ns : List Int} (hb : ∀ z ∈ ns, Builtin.Int.intBits z ≤ 1048576) (j : Nat) : Sz 1048577 (cellOf ns j) := by
  unfold L2.cellOf
  by_cases h : j < ns.length
  · exact Sz.bits (hb _ (memD h))
  · rw [List.getD_eq_getElem?_getD, List.getElem?_eq_none (by omega)]
    exact Sz.zero _
def Bn (b : Nat) (t : Ct) : Prop := (∀ x ∈ t.c, Sz b x) ∧ Sz b t.d ∧ match t.k with | .div m => Sz b m | _ => True
theorem bn_co {b : Nat} {t : Ct} (h : Bn b t) (k : Nat) : Sz b (co k t.ex) := by
  show Sz b (t.c.getD k 0)
  rw [List.getD_eq_getElem?_getD]
  cases e : t.c[k]? with
  | none => exact Sz.zero _
  | some x => exact h.1 x (List.mem_of_getElem? e)
theorem bn_k {b c : Nat} {t : Ct} (h : Bn b t) (hc : b ≤ c) : match t.k with | .div m => Sz c m | _ => True := by
  have := h.2.2
  cases hk : t.k with
  | ge => trivial
  | eq => trivial
  | div m => rw [hk] at this; exact Sz.mono this hc
theorem eqAt_b {b : Nat} (hb : 11 ≤ b) : ∀ (ps : List (Ex × Int)) (i : Int), (∀ q ∈ ps, 0 ≤ q.2 ∧ (∀ x ∈ q.1.1, Sz b x) ∧ Sz b q.1.2) → 0 ≤ i → i ≤ 1000 → (∀ x ∈ (eqAt ps i).1, Sz b x) ∧ Sz (b + 1) (eqAt ps i).2
  | [], i, _, _, _ => ⟨fun x hx => (by cases hx), Sz.zero _⟩
  | q :: l, i, hp, h0, h1 => by
    obtain ⟨q0, q1, q2⟩ := hp q List.mem_cons_self
    rw [eqAt]
    by_cases h : i < q.2
    · rw [if_pos h]
      refine ⟨q1, Sz.sub q2 (Sz.mono (a := 11) ?_ hb)⟩
      show Int.natAbs _ < 2048
      omega
    · rw [if_neg h]
      exact eqAt_b hb l (i - q.2) (fun q hq => hp q (List.mem_cons_of_mem _ hq)) (by omega) (by omega)
theorem case_b {n k : Nat} {ts : List Ct} {b : Nat} (hb : 11 ≤ b) (h : ∀ t ∈ ts, Bn b t) (hq : ∀ q ∈ pivots k ts, 0 ≤ q.2) {i : Int} (h0 : 0 ≤ i) (h1 : i ≤ 1000) : ∀ t ∈ caseRows k ts i, Bn (2 * b + 2) t := by
  unfold caseRows
  split
  · intro t ht
    rcases List.mem_append.mp ht with ht | ht
    · obtain ⟨u, hu, rfl⟩ := List.mem_map.mp ht
      have g := h u (List.mem_filter.mp hu).1
      exact ⟨fun x hx => (g.1 x (wo_mem hx)).mono (by omega), g.2.1.mono (by omega), @bn_k b (2 * b + 2) u g (by omega)⟩
    · obtain ⟨l, hl, hx⟩ := List.mem_flatten.mp ht
      obtain ⟨a, ha, rfl⟩ := List.mem_map.mp hl
      obtain ⟨c, hc, rfl⟩ := List.mem_map.mp hx
      obtain ⟨ta, ta1, ta2, ta3, rfl⟩ := low_mem.mp ha
      obtain ⟨tb, tb1, tb2, tb3, rfl⟩ := upp_mem.mp hc
      have ga := h ta ta1
      have gb := h tb tb1
      have ca := bn_co ga k
      have cb := sz_neg (bn_co gb k)
      refine ⟨fun x hx => ?_, ?_, trivial⟩
      · refine zip_mem (P := Sz (2 * b + 2)) (fun u hu v hv => ?_) x (wo_mem hx)
        obtain ⟨u', hu', rfl⟩ := List.mem_map.mp hu
        obtain ⟨v', hv', rfl⟩ := List.mem_map.mp hv
        exact (Sz.add (Sz.mul ca (gb.1 u' hu')) (Sz.mul cb (ga.1 v' hv'))).mono (by omega)
      · exact (Sz.add (Sz.mul ca gb.2.1) (Sz.mul cb ga.2.1)).mono (by omega)
  · split
    · intro t ht
      obtain ⟨u, hu, rfl⟩ := List.mem_map.mp ht
      have g := h u hu
      have si : Sz 11 i := by
        show Int.natAbs _ < 2048
        omega
      exact ⟨fun x hx => (g.1 x (wo_mem hx)).mono (by omega), (Sz.add (g.2.1.mono (show b ≤ 11 + b by omega)) (Sz.mul si (bn_co g k))).mono (by omega), @bn_k b (2 * b + 2) u g (by omega)⟩
    · have hy := eqAt_b hb (pivots k ts) i (fun q hq' => by
        refine ⟨hq q hq', ?_⟩
        have key : ∀ t ∈ ts, q.1 = t.ex → (∀ x ∈ q.1.1, Sz b x) ∧ Sz b q.1.2 := fun t ht e => by rw [e]; exact ⟨(h t ht).1, (h t ht).2.1⟩
        rcases pivots_mem hq' with ⟨h1, _⟩ | ⟨h1 | h1, _⟩
        · obtain ⟨t, t1, _, _, t4⟩ := eq_mem.mp h1
          exact key t t1 t4
        · obtain ⟨t, t1, _, _, t4⟩ := low_mem.mp h1
          exact key t t1 t4
        · obtain ⟨t, t1, _, _, t4⟩ := upp_mem.mp h1
          exact key t t1 t4) h0 h1
      generalize eqAt (pivots k ts) i = y at *
      have hc : Sz b (co k y) := by
        show Sz b (y.1.getD k 0)
        rw [List.getD_eq_getElem?_getD]
        cases e : y.1[k]? with
        | none => exact Sz.zero _
        | some x => exact hy.1 x (List.mem_of_getElem? e)
      have ha := Sz.abs hc
      intro t ht
      rcases List.mem_cons.mp ht with rfl | ht
      · exact ⟨fun x hx => (hy.1 x (wo_mem hx)).mono (by omega), hy.2.mono (by omega), ha.mono (by omega)⟩
      · obtain ⟨u, hu, rfl⟩ := List.mem_map.mp ht
        have g := h u hu
        have cu := bn_co g k
        have hf : Sz b (if 0 < co k y then co k u.ex else - co k u.ex) := by
          split
          · exact cu
          · exact sz_neg cu
        refine ⟨fun x hx => ?_, ?_, ?_⟩
        · refine zip_mem (P := Sz (2 * b + 2)) (fun u' hu' v' hv' => ?_) x hx
          obtain ⟨u1, h1, rfl⟩ := List.mem_map.mp hu'
          obtain ⟨v1, h2, rfl⟩ := List.mem_map.mp hv'
          exact (Sz.sub (Sz.mul ha (g.1 u1 (wo_mem h1))) (Sz.mul hf (hy.1 v1 (wo_mem h2)))).mono (by omega)
        · exact (Sz.sub (Sz.mul ha (g.2.1.mono (show b ≤ b + 1 by omega))) (Sz.mul hf hy.2)).mono (by omega)
        · have ms := g.2.2
          show match scK ((co k y).natAbs : Int) u.k with | .div m => Sz (2 * b + 2) m | _ => True
          cases hkd : u.k with
          | ge => trivial
          | eq => trivial
          | div m =>
            rw [hkd] at ms
            exact (Sz.mul (show Sz b m from ms) ha).mono (by omega)
theorem bn_red {b : Nat} (hb : 1 ≤ b) {t u : Ct} (ok : t.k.ok) (g : Bn b t) (h : red t = some u) : Bn b u := red_all hb ok h g.1 g.2.1 g.2.2
theorem bn_narrow {t : Ct} (h : Bn 59 t) : wideC t = false := by
  have e59 : (2 : Nat) ^ 59 = 576460752303423488 := by decide
  refine List.any_eq_false.mpr fun x hx => ?_
  rw [decide_eq_true_eq]
  have key : Sz 59 x → ¬ 1000000000000000000 < (x.natAbs : Int) := fun z => by
    have : x.natAbs < 2 ^ 59 := z
    omega
  rcases List.mem_append.mp hx with hx | hx
  · have ms := h.2.2
    cases hk : t.k with
    | ge => rw [hk] at hx; cases hx
    | eq => rw [hk] at hx; cases hx
    | div m =>
      rw [hk] at hx ms
      rw [List.mem_singleton.mp hx] at key ⊢
      exact key ms
  · rcases List.mem_append.mp hx with hx | hx
    · exact key (h.1 x hx)
    · rw [List.mem_singleton.mp hx] at key ⊢
      exact key h.2.1
/-- the bounds of drawn steps -/
def StS : Stp → Prop
  | .close => True
  | .add ms d => (∀ m ∈ ms, Sz 4 m) ∧ Sz 4 d
  | .split xs => ∀ x ∈ xs, Sz 4 x
  | .cases _ => True
theorem made_narrow {y : Sm} {s : Stp} {ys : List Sm} (g : GS 100 y) (b21 : ∀ t ∈ y.2, Bn 21 t) (l8 : y.2.length ≤ 800) (hs : StS s) (m : ¬ Many y s) (h : madeP y s = some ys) : wide ys = false := by
  obtain ⟨n, ts⟩ := y
  dsimp only at b21 l8
  have up : ∀ {t : Ct} {b : Nat}, b ≤ 59 → Bn b t → Bn 59 t := fun {t b} hb g => ⟨fun x hx => (g.1 x hx).mono hb, g.2.1.mono hb, bn_k g hb⟩
  suffices hB : ∀ z ∈ ys, ∀ t ∈ z.2, Bn 59 t from List.any_eq_false.mpr fun z hz => by
    rw [Bool.not_eq_true]
    exact List.any_eq_false.mpr fun t ht => by rw [bn_narrow (hB z hz t ht)]; decide
  have old : ∀ t ∈ ts, Bn 59 t := fun t ht => up (by decide) (b21 t ht)
  cases s with
  | close =>
    rw [madeP] at h
    split at h
    · cases h; exact fun z hz => by cases hz
    · cases h
  | add ms d =>
    rw [madeP] at h
    cases e : sumOf n ts ms d with
    | none => rw [e] at h; cases h
    | some t =>
      rw [e] at h
      cases h
      intro z hz u hu
      rw [List.mem_singleton.mp hz] at hu
      rcases List.mem_cons.mp hu with rfl | hu
      · have hps : ∀ q ∈ ms.zip ts, q.1 ∈ ms ∧ q.2 ∈ ts := fun q hq => List.of_mem_zip (show (q.1, q.2) ∈ _ from hq)
        have bt := totL_bd (B := 2 ^ 4 * 2 ^ 21) (ms.zip ts) (List.replicate (n + 1) 0) 0 (fun y hy => by rw [(List.mem_replicate.mp hy).2]; decide) (fun q hq => mul_bd (Nat.le_of_lt (hs.1 _ (hps q hq).1)) fun y hy => Nat.le_of_lt (by
          have := b21 _ (hps q hq).2
          rcases List.mem_append.mp hy with hy | hy
          · exact this.1 y hy
          · rw [List.mem_singleton.mp hy]; exact this.2.1))
        have zl : (ms.zip ts).length ≤ 800 := by rw [List.length_zip]; omega
        have bt2 : ∀ x ∈ totL (List.replicate (n + 1) 0) (ms.zip ts), Sz 58 x := fun x hx => by
          have h1 := bt x hx
          have h2 : 0 + (ms.zip ts).length * (2 ^ 4 * 2 ^ 21) ≤ 800 * (2 ^ 4 * 2 ^ 21) := by rw [Nat.zero_add]; exact Nat.mul_le_mul_right _ zl
          exact Nat.lt_of_le_of_lt (Nat.le_trans h1 h2) (by decide)
        have lt := totL_len (n := n) (ms.zip ts) (List.replicate (n + 1) 0) (List.length_replicate ..) fun q hq => (g.gd _ (hps q hq).2).len
        unfold sumOf at e
        generalize totL (List.replicate (n + 1) 0) (ms.zip ts) = tt at *
        split at e
        · rename_i hd
          have hd := hd.2
          split at e
          · cases e
          · cases e
            refine ⟨fun x hx => ?_, ?_, trivial⟩
            · obtain ⟨w, hw, rfl⟩ := List.mem_map.mp hx
              exact (sz_div (bt2 w (List.mem_of_mem_take hw)) (by omega)).mono (by decide)
            · refine (sz_div (bt2 _ ?_) (by omega)).mono (by decide)
              rw [List.getD_eq_getElem?_getD, List.getElem?_eq_getElem (by omega)]
              exact List.getElem_mem _
        · cases e
      · exact old u hu
  | split xs =>
    rw [madeP] at h
    split at h
    · rename_i e
      dsimp only at e
      cases h
      have hd : Sz 4 (xs.getD n 0) := by
        rw [List.getD_eq_getElem?_getD, List.getElem?_eq_getElem (by omega)]
        exact hs _ (List.getElem_mem _)
      intro z hz u hu
      rcases List.mem_cons.mp hz with rfl | hz
      · rcases List.mem_cons.mp hu with rfl | hu
        · exact ⟨fun x hx => (hs x (List.mem_of_mem_take hx)).mono (by decide), hd.mono (by decide), trivial⟩
        · exact old u hu
      · rw [List.mem_singleton.mp hz] at hu
        rcases List.mem_cons.mp hu with rfl | hu
        · refine ⟨fun x hx => ?_, ?_, trivial⟩
          · obtain ⟨w, hw, rfl⟩ := List.mem_map.mp hx
            exact (Sz.mul (sz_one 1 (by decide)) (hs w (List.mem_of_mem_take hw))).mono (by decide)
          · exact (Sz.add (Sz.mul (sz_one 1 (by decide)) hd) (sz_one 5 (by decide))).mono (by decide)
        · exact old u hu
    · cases h
  | cases k =>
    rw [madeP] at h
    split at h
    · rename_i e
      dsimp only at e
      cases h
      have m1 : countC k ts ≤ 200 := Int.not_lt.mp fun z => m ⟨e, .inl z⟩
      have hG : ∀ r ∈ ts.map fun t => ((0 : Addr), t), Gn n r.2 := fun r hr => by
        obtain ⟨t, ht, rfl⟩ := List.mem_map.mp hr
        exact g.gd t ht
      have hq : ∀ q ∈ pivots k ts, 0 ≤ q.2 := fun q hq => (piv_ok (rs := ts.map fun t => (0, t)) hG (by rw [cts_zero]; exact g.nd) e (by rw [cts_zero]; exact hq)).2.2.2.2.1
      intro z hz u hu
      obtain ⟨i, hi, rfl⟩ := List.mem_map.mp hz
      rw [List.mem_range] at hi
      dsimp only at hi hu
      have wf := case_wf hG (by rw [cts_zero]; exact g.nd) e g.n4 (i := (i : Int)) (by omega) (by rw [cts_zero]; omega) (by omega)
      rw [cts_zero] at wf
      have hb := case_b (n := n) (by decide) b21 hq (i := (i : Int)) (by omega) (by omega)
      exact rrows_mem (n - 1) (Bn 59) (caseRows k ts (i : Int)) [] (fun t ht u hu => up (b := 2 * 21 + 2) (by decide) (bn_red (by decide) (wf t ht).ok (hb t ht) hu)) (fun t ht => by cases ht) u hu
    · cases h
theorem run1 (y : Sm) (s : Stp) (i : Nat) : (Many y s ∧ runP [y] [s] i = .many) ∨ (¬ Many y s ∧ ((madeP y s = none ∧ runP [y] [s] i = .fail i) ∨ ∃ ys, madeP y s = some ys ∧ ((heavy ys = true ∧ runP [y] [s] i = .many) ∨ (heavy ys = false ∧ wide ys = true ∧ runP [y] [s] i = .great) ∨ (heavy ys = false ∧ wide ys = false ∧ runP [y] [s] i = .ok ys)))) := by
  by_cases m : Many y s
  · exact .inl ⟨m, by rw [runP, if_pos m]⟩
  · refine .inr ⟨m, ?_⟩
    cases e : madeP y s with
    | none => exact .inl ⟨rfl, by rw [runP, if_neg m, e]⟩
    | some ys =>
      refine .inr ⟨ys, rfl, ?_⟩
      have e0 : runP [y] [s] i = if heavy (ys ++ []) = true then .many else if wide ys = true then .great else runP (ys ++ []) [] (i + 1) := by
        conv => lhs; rw [runP, if_neg m, e]
      rw [List.append_nil] at e0
      have e1 : ∀ j, runP ys [] j = .ok ys := fun j => by cases ys <;> rfl
      rw [e0, e1]
      cases hv : heavy ys with
      | true => exact .inl ⟨rfl, by rw [if_pos rfl]⟩
      | false =>
        cases hw : wide ys with
        | true => exact .inr (.inl ⟨rfl, rfl, by rw [if_neg (by decide), if_pos rfl]⟩)
        | false => exact .inr (.inr ⟨rfl, rfl, by rw [if_neg (by decide), if_neg (by decide)]⟩)
theorem nD_le (l : List Ct) : nD l ≤ l.length := List.length_filter_le _ _
def sp_law (K : PySem.W.Frag) : Sp := fun vs H Q _ => ∃ (a : Addr) (ns : List Int), vs = [.ref a] ∧ SqL K H a (ns.map V.int) ∧ (∀ z ∈ ns, Builtin.Int.intBits z ≤ 1048576) ∧ ∀ H', Q (.bl true) H'
theorem sp_law_of {K : PySem.W.Frag} {H : Hp} {a : Addr} {ns : List Int} (_ : ns.length ≤ 63) (hb : ∀ z ∈ ns, Builtin.Int.intBits z ≤ 1048576) (_ : Only H) (hS : SqL K H a (ns.map V.int)) : sp_law K [.ref a] H (fun v _ => v = .bl true) fun _ _ _ => False :=
  ⟨a, ns, rfl, hS, hb, fun _ => rfl⟩
/-! ### what an outcome is -/
def OutM (A : Ad) (K : PySem.W.Frag) (H : Hp) (p : Addr) : Rs → Prop
  | .ok ys => ∃ bs, SqT K H p (rsv bs) ∧ RsAll (SyN A K) H bs ∧ bs.map (·.2) = ys
  | .many => SqT K H p [.str "many"]
  | .great => SqT K H p [.str "great"]
  | .fail _ => False
theorem OutM.same {A : Ad} {K : PySem.W.Frag} {H H' : Hp} {p : Addr} {r : Rs} (h : OutM A K H p r) (s : Same H H') : OutM A K H' p r := by
  cases r with
  | ok ys => obtain ⟨bs, h1, h2, h3⟩ := h; exact ⟨bs, sameT s h1, h2.same syn_stay s, h3⟩
  | many => exact sameT s h
  | great => exact sameT s h
  | fail i => exact h
def sp_law_outcome (A : Ad) (K : PySem.W.Frag) : Sp := fun vs H Q _ => ∃ (a st : Addr) (y : Sm) (s : Stp), vs = [.ref a, .ref st] ∧ SyN A K H a y ∧ GS 100 y ∧ StM K H st s ∧ StB s ∧ (∀ i, runP [y] [s] 0 ≠ .fail i) ∧
  ∀ H' p, Same H H' → OutM A K H' p (runP [y] [s] 0) → Q (.ref p) H'
def Rs.isMany : Rs → Bool
  | .many => true
  | _ => false
def Rs.isGreat : Rs → Bool
  | .great => true
  | _ => false
theorem out_eq {A : Ad} {K : PySem.W.Frag} {H : Hp} {p b : Addr} {r : Rs} {w : Str} {t : Bool} {Q : VK} (h : OutM A K H p r) (hb : SqT K H b [.str w]) (hm : r = .many → decide (Str.ofString "many" = w) = t) (hg : r = .great → decide (Str.ofString "great" = w) = t) (ho : ∀ ys, r = .ok ys → t = false) (hsh : SeqAt.shaped (.tuple [.str w]) = true) (q : Q (.bl t) H) :
    rOr (rEqD K) (rEqTF K A.C_System (sp_System___eq__ A K)) (.ref p) (.ref b) H Q := by
  have text : ∀ w' : Str, SqT K H p [.str w'] → SeqAt.shaped (.tuple [.str w']) = true → decide (w' = w) = t → rEqD K (.ref p) (.ref b) H Q := fun w' hp hs e => by
    refine ⟨.tuple [.str w'], .tuple [.str w], .tup hp (.cons (.str _) .nil), .tup hb (.cons (.str _) .nil), hs, hsh, ?_⟩
    have e2 : PyData.eqv (.tuple [.str w']) (.tuple [.str w]) = t := by
      rw [← e]
      simp only [PyData.eqv, PyData.eqvAll, Bool.and_true]
      first
        | rfl
        | (by_cases z : w' = w
           · subst z; simp
           · simp [z])
    rw [e2]
    exact q
  cases r with
  | ok ys =>
    obtain ⟨bs, h1, h2, h3⟩ := h
    have ht := ho ys rfl
    subst ht
    refine .inr ⟨p, b, rsv bs, w, [], rfl, rfl, h1, hb, ?_⟩
    cases bs with
    | nil => exact .inl ⟨rfl, q⟩
    | cons c r =>
      obtain ⟨dy, rb, ss, sy, es⟩ := h2 c List.mem_cons_self
      exact .inr ⟨c.1, dy, _, rsv r, rfl, sy.ob, c.1, w, rfl, rfl, q⟩
  | many => exact .inl (text "many" h (by decide +kernel) (hm rfl))
  | great => exact .inl (text "great" h (by decide +kernel) (hg rfl))
  | fail i => exact h.elim
section
variable {w : World} {K : PySem.W.Frag} {mg : Str → Option Value} {base : Heap} {A : Ad}
theorem ok_law_outcome (T : Txt K mg A) : FnOk P w K mg base CX0 14 A.f_law_outcome A.d_law_outcome ["system", "step"] (sp_law_outcome A K) := by
  have G_apply_step := ok_apply_step (w := w) (base := base) T
  refine T.F_law_outcome.ok sc_law_outcome (fun vs H Q E h => ?_) (fun cdv A' outer s H vs Q E hr h => ?_)
  · obtain ⟨a, st, y, s, rfl, _⟩ := h
    rfl
  · obtain ⟨a, st, y, s, rfl, hY, hG, hS, hB, hnf, q⟩ := h
    refine ⟨_, (pss_one (ps_try_manyAs rfl rfl sc_law_outcome.nd takesN0 (fun W pn xe tk _ => pss_one (ps_ret (pe_callS G_apply_step hr (by rfl) T.g_apply_step T.F_apply_step.kp T.B_apply_step (fun σ => L2N.passAt tk σ) (pa_cons (pv 0) (pa_cons (pv 1) pa_nil))))) (.cons (i := 2) rfl rfl ⟨rfl, by decide, .inl T.tm.g⟩ (fun a oe cls d pn hz hf => pss_cons (ps_if (PW.pt (pw_and (pt_val (pe_callB (call_isN T.eM hz.zc hf) (by rfl) T.b_isinstance (by decide +kernel) (pa_cons (pv 2) (pa_cons (pe_glob (v := .ref A.xW) rfl T.gW rfl) pa_nil)))) (pw_and1 (pt_not (pt_val (pe_callB (call_isN T.eM hz.zc hf) (by rfl) T.b_isinstance (by decide +kernel) (pa_cons (pv 2) (pa_cons (pe_glob (v := .ref A.xG) rfl T.tg.g rfl) pa_nil)))))))) (pss_one (ps_ret (pe_tup (pa_cons pe_str pa_nil)))) pss_nil) (pss_one (ps_ret (pe_tup (pa_cons pe_str pa_nil))))) (.cons (i := 2) rfl rfl ⟨rfl, by decide, .inl T.tg.g⟩ (fun a oe cls d pn hz hf => pss_cons (ps_if (PW.pt (pw_and (pt_val (pe_callB (call_isN T.eG hz.zc hf) (by rfl) T.b_isinstance (by decide +kernel) (pa_cons (pv 2) (pa_cons (pe_glob (v := .ref A.xW) rfl T.gW rfl) pa_nil)))) (pw_and1 (pt_not (pt_val (pe_callB (call_isN T.eG hz.zc hf) (by rfl) T.b_isinstance (by decide +kernel) (pa_cons (pv 2) (pa_cons (pe_glob (v := .ref A.xM) rfl T.tm.g rfl) pa_nil)))))))) (pss_one (ps_ret (pe_tup (pa_cons pe_str pa_nil)))) pss_nil) (pss_one (ps_ret (pe_tup (pa_cons pe_str pa_nil))))) .nil)))), ?_⟩
    walk_at "wp"
    refine ⟨a, st, y, s, rfl, hY, hG, hS, hB, ?_⟩
    cases hr : runP [y] [s] 0 with
    | ok ys =>
      rw [hr] at q
      exact fun H' p bs s' hp hb e => q H' p s' ⟨bs, hp, hb, e⟩
    | fail i => exact absurd hr (hnf i)
    | many =>
      rw [hr] at q
      intro H' s'
      refine ⟨true, T.x1, fun _ b nb => ?_, fun z => (nomatch z)⟩
      rw [show [some (V.ref a), some (V.ref st), (none : Option V)].set 2 (some (V.ref b)) = [some (V.ref a), some (V.ref st), some (V.ref b)] from rfl]
      walk_at "wp"
      refine ⟨rfl, rfl, V.ref A.xW, .ref A.xW, true, rfl, fun u h => h, T.m1, ?_⟩
      walk_at "wp"
      refine ⟨rfl, rfl, V.ref A.xG, .ref A.xG, false, rfl, fun u h => h, T.m2, ?_⟩
      walk_at "wp"
      exact ⟨by decide, fun p np => q _ p (s'.trans (same_upd np)) (SqT.of upd_same)⟩
    | great =>
      rw [hr] at q
      intro H' s'
      refine ⟨false, T.x2, fun z => (nomatch z), fun _ => ⟨true, T.x3, fun _ b nb => ?_, fun z => (nomatch z)⟩⟩
      rw [show [some (V.ref a), some (V.ref st), (none : Option V)].set 2 (some (V.ref b)) = [some (V.ref a), some (V.ref st), some (V.ref b)] from rfl]
      walk_at "wp"
      refine ⟨rfl, rfl, V.ref A.xW, .ref A.xW, true, rfl, fun u h => h, T.g1, ?_⟩
      walk_at "wp"
      refine ⟨rfl, rfl, V.ref A.xM, .ref A.xM, false, rfl, fun u h => h, T.g2, ?_⟩
      walk_at "wp"
      exact ⟨by decide, fun p np => q _ p (s'.trans (same_upd np)) (SqT.of upd_same)⟩
end
local macro_rules | `(tactic| walk_at "wp") => `(tactic| simp only [tSeq, tCKw, tAsg, tPar, gName, gTup, gCons, gNil, tVar, tC, tOp, tUn, rI, rI0, rU, tCB, tCons, tNil, tIfS, tRet, tRetN, tNext, tNever, test_eq, tB, tTup, tLst, tCall, tCallS, tCallLS, tMakeS, tAddS, tChain, rNotInO, rInO, iEnumT, iEnum, rIsnotB, rIsB, iZipM, tMkO, tIf, tAndV, tOrV, tNotV, tNot, tAnd, tOr, rEq, rNe, scal_ii, scal_ss, scal_bb, dec_ii, dec_ss, dec_bb, for_eq, lc_eq, lc2_eq, while_eq, tDrop, tYes, iList, iTup, iOr, tDNewN, tNSet, rNSet, sFld, tFld, tMake, tProp, tMeth, cxP, cxW, iStr, iRng1, iRng2, RZ.iZipA, L2.start, rIxL, rIxT, rIxS, rSlS, cxK, tSl, tPart, tNoPart, tBM, tBM0, rAppend, rExtend, rRepS, rGcd, s_ge_eq, s_ge_div, s_eq_ge, s_eq_div, s_div_ge, s_div_eq, gSub, rSetL, tAug, ipI, rAdd, rSub, tM1, tM0,
  List.map_cons, List.map_nil, List.length_cons, List.length_nil, List.cons_append, List.nil_append, List.append_nil, List.getElem?_cons_succ, List.getElem?_cons_zero, List.set_cons_succ, List.set_cons_zero, Nat.reduceAdd, Nat.reduceSub, List.replicate_succ, List.replicate_zero, wipe,
  Option.some.injEq, V.int.injEq, V.str.injEq, sgn_eq, V.ref.injEq, V.bl.injEq, exists_eq_left, exists_eq_left', exists_and_left, exists_eq_right, List.cons.injEq, and_true, true_and, ex_bl, ex_int, exists_const, Nat.zero_add, Int.toNat_natCast, Int.zero_add, and_assoc, reduceCtorEq, false_and, and_false, exists_false, or_false, false_or, eq_self, decide_true, decide_false, ite_true, ite_false, if_true, if_false, Bool.false_eq_true, Bool.not_true, Bool.not_false, ↓reduceIte])
theorem split_run (n : Nat) (ts : List Ct) (c : List Int) (d : Int) (hc : c.length = n) : runP [(n, ts)] [.split (c ++ [d])] 0 = if heavy [(n, ⟨.ge, c, d⟩ :: ts), (n, opp c d :: ts)] = true then .many else if wide [(n, ⟨.ge, c, d⟩ :: ts), (n, opp c d :: ts)] = true then .great else .ok [(n, ⟨.ge, c, d⟩ :: ts), (n, opp c d :: ts)] := by
  have e1 : (c ++ [d]).take n = c := by rw [List.take_left' hc]
  have e2 : (c ++ [d]).getD n 0 = d := by rw [List.getD_eq_getElem?_getD, List.getElem?_append_right (by omega), hc, Nat.sub_self]; rfl
  have e3 : (c ++ [d]).length = n + 1 := by rw [List.length_append, hc, List.length_singleton]
  have em : madeP (n, ts) (.split (c ++ [d])) = some [(n, ⟨.ge, c, d⟩ :: ts), (n, opp c d :: ts)] := by rw [madeP, if_pos e3]; dsimp only; rw [e1, e2]
  have nm : ¬ Many (n, ts) (.split (c ++ [d])) := fun z => z
  rcases run1 (n, ts) (.split (c ++ [d])) 0 with ⟨m, _⟩ | ⟨_, ⟨e, _⟩ | ⟨ys, e, h⟩⟩
  · exact absurd m nm
  · rw [em] at e; cases e
  · rw [em] at e
    cases e
    rcases h with ⟨h1, h2⟩ | ⟨h1, h2, h3⟩ | ⟨h1, h2, h3⟩
    · rw [h2, if_pos h1]
    · rw [h3, if_neg (by rw [h1]; decide), if_pos h2]
    · rw [h3, if_neg (by rw [h1]; decide), if_neg (by rw [h2]; decide)]
theorem split_made (n : Nat) (ts : List Ct) (c : List Int) (d : Int) (hc : c.length = n) : madeP (n, ts) (.split (c ++ [d])) = some [(n, ⟨.ge, c, d⟩ :: ts), (n, opp c d :: ts)] := by
  have e1 : (c ++ [d]).take n = c := by rw [List.take_left' hc]
  have e2 : (c ++ [d]).getD n 0 = d := by rw [List.getD_eq_getElem?_getD, List.getElem?_append_right (by omega), hc, Nat.sub_self]; rfl
  have e3 : (c ++ [d]).length = n + 1 := by rw [List.length_append, hc, List.length_singleton]
  rw [madeP, if_pos e3]; dsimp only; rw [e1, e2]
theorem heavy2 (n : Nat) (a b : List Ct) : heavy [(n, a), (n, b)] = (decide (40 < (n : Int)) || decide (4000 < (a.length : Int) + 1 + ((b.length : Int) + 1))) := by
  unfold heavy
  simp only [List.any_cons, List.any_nil, Bool.or_false, List.map_cons, List.map_nil, List.sum_cons, List.sum_nil, Bool.or_self]
  congr 2
def sp_law_wide (K : PySem.W.Frag) : Sp := fun vs H Q _ => ∃ c : Int, vs = [.int c] ∧ ∀ H', Same H H' → Q (.bl true) H'
def sp_law_great (K : PySem.W.Frag) : Sp := fun vs H Q _ => ∃ c : Int, vs = [.int c] ∧ Sz 1048577 c ∧ ∀ H', Same H H' → Q (.bl true) H'
theorem gn_zero (n : Nat) : Gn n ⟨.ge, List.replicate n 0, 0⟩ := ⟨trivial, List.length_replicate .., fun x hx => by rw [(List.mem_replicate.mp hx).2]; exact Sz.zero _, Sz.zero _, trivial⟩
theorem gs_one {n : Nat} {t : Ct} (g : Gn n t) (hk : t.k = .ge) (hn : n ≤ 44) : GS 100 (n, [t]) := ⟨fun u hu => by rw [List.mem_singleton.mp hu]; exact g, Nat.le_of_ble_eq_true rfl, by
  show nD [t] ≤ 100
  rw [nD_zero (fun u hu => by rw [List.mem_singleton.mp hu]; exact hk)]
  omega, hn⟩
theorem one_snoc {n : Nat} (hn : 1 ≤ n) : (1 : Int) :: List.replicate n 0 = (1 :: List.replicate (n - 1) 0) ++ [0] := by
  obtain ⟨m, rfl⟩ : ∃ m, n = m + 1 := ⟨n - 1, by omega⟩
  rw [Nat.add_sub_cancel, List.replicate_succ', List.cons_append]
def tOne : Ct := ⟨.ge, [1], 0⟩
theorem gn_one : Gn 1 tOne := ⟨trivial, rfl, fun x hx => by rw [List.mem_singleton.mp hx]; exact Sz.mono (a := 1) (show Int.natAbs (1 : Int) < 2 ^ 1 by decide) (by decide), Sz.zero _, trivial⟩
theorem wide2 (c d : Int) : wide [(1, ⟨.ge, [c], d⟩ :: [tOne]), (1, opp [c] d :: [tOne])] = decide (1000000000000000000 < (c.natAbs : Int) ∨ 1000000000000000000 < (d.natAbs : Int) ∨ 1000000000000000000 < ((-1 * d + -1).natAbs : Int)) := by
  have hm : (-1 * c).natAbs = c.natAbs := by omega
  rw [Bool.eq_iff_iff, decide_eq_true_eq]
  simp only [wide, wideC, opp, tOne, Kd.mid, Ct.e, List.any_cons, List.any_nil, List.nil_append, List.cons_append, List.map_cons, List.map_nil, Bool.or_false, Bool.or_eq_true, decide_eq_true_eq, hm]
  omega
theorem great_run (c d : Int) : runP [(1, [tOne])] [.split [c, d]] 0 = if 1000000000000000000 < (c.natAbs : Int) ∨ 1000000000000000000 < (d.natAbs : Int) ∨ 1000000000000000000 < ((-1 * d + -1).natAbs : Int) then .great else .ok [(1, ⟨.ge, [c], d⟩ :: [tOne]), (1, opp [c] d :: [tOne])] := by
  have h := split_run 1 [tOne] [c] d rfl
  have hv : heavy [(1, ⟨.ge, [c], d⟩ :: [tOne]), (1, opp [c] d :: [tOne])] = false := by rw [heavy2]; rfl
  rw [hv, if_neg (by decide), wide2] at h
  rw [show [Stp.split [c, d]] = [Stp.split ([c] ++ [d])] from rfl, h]
  simp only [decide_eq_true_eq]
theorem q_cast {Q : VK} {H : Hp} {x y t : Bool} (e : decide (x = y) = t) (q : Q (.bl t) H) : Q (.bl (decide (V.bl x = V.bl y))) H := by
  have e2 : decide (V.bl x = V.bl y) = t := by
    rw [← e, decide_eq_decide, V.bl.injEq]
  rw [e2]
  exact q
section
variable {w : World} {K : PySem.W.Frag} {mg : Str → Option Value} {base : Heap} {A : Ad}
theorem ok_law_wide (T : Txt K mg A) : FnOk P w K mg base CX0 15 A.f_law_wide A.d_law_wide ["cell"] (sp_law_wide K) := by
  have G_System___init__ := ok_System___init__ (w := w) (base := base) T
  have G_law_outcome := ok_law_outcome (w := w) (base := base) T
  refine T.F_law_wide.ok sc_law_wide (fun vs H Q E h => ?_) (fun cdv A' outer s H vs Q E hr h => ?_)
  · obtain ⟨c, rfl, _⟩ := h
    rfl
  · obtain ⟨c, rfl, q⟩ := h
    have G_System___eq__ := ok_System___eq__ (w := w) (base := base) T
    refine ⟨_, (pss_cons (ps_set (i := 1) sc_law_wide.nd rfl (Or.inl rfl) (pe_op op_add pe_int (pe_op op_mod (pe_callTy call_intI (by rfl) T.b_int (by decide +kernel) (pa_cons (pv 0) pa_nil)) pe_int))) 
    (pss_cons (ps_set (i := 2) sc_law_wide.nd rfl (Or.inl rfl) (pe_make T.mk_System G_System___init__ (hr.mono (by decide)) (by rfl) T.gC_System T.B_System___init__ .nil pass0 (pa_cons (pv 1) (pa_cons (pe_lst (pa_cons (pe_tup (pa_cons pe_str (pa_cons (pe_op op_catA (pe_op op_repA (pe_tup (pa_cons pe_int pa_nil)) (pv 1)) (pe_tup (pa_cons pe_int pa_nil))) pa_nil))) pa_nil)) pa_nil)))) 
    (pss_cons (ps_set (i := 3) sc_law_wide.nd rfl (Or.inl rfl) (pe_call G_law_outcome hr (by rfl) T.g_law_outcome T.F_law_outcome.kp T.B_law_outcome .nil pass0 (pa_cons (pv 2) (pa_cons (pe_tup (pa_cons pe_str (pa_cons (pe_op op_catA (pe_tup (pa_cons pe_int pa_nil)) (pe_op op_repA (pe_tup (pa_cons pe_int pa_nil)) (pv 1))) pa_nil))) pa_nil)))) 
    (pss_one (ps_ret (pe_cmpR op_eq (pe_cmpR (op_or (op_eqD hr.units) (op_eqTF ⟨T.me_System___eq__.at_, T.me_System___eq__.fn⟩ G_System___eq__ (hr.mono (by decide)) T.B_System___eq__ pass0 T.sS)) (pv 3) (pe_tup (pa_cons pe_str pa_nil)) (nomark _)) (pe_cmpR op_gt (pv 1) pe_int (nomark _)) (nomark _))))))), ?_⟩
    walk_at "wp"
    obtain ⟨n, hn0, hn, en⟩ : ∃ n : Nat, 40 ≤ n ∧ n ≤ 43 ∧ 40 + c % 4 = (n : Int) := ⟨(40 + c % 4).toNat, by omega, by omega, by omega⟩
    rw [en]
    refine ⟨by decide, by decide, fun p1 n1 => ⟨p1, n, [V.int 0], rfl, rfl, SqT.of upd_same, by simp, by omega, by simp, fun H2 ta s2 h2 => ⟨by decide, fun p3 n3 => ?_⟩⟩⟩
    have e0 : (List.replicate n [V.int 0]).flatten = (List.replicate n (0 : Int)).map V.int := by rw [List.map_replicate]; simp
    rw [e0] at h2
    have s12 := (same_upd (o := .tup [V.int 0]) n1).trans s2
    refine cat_sm (sameT (same_upd n3) h2) (SqT.of upd_same) (by rw [List.length_map, List.length_replicate, List.length_singleton]; omega) fun H4 p4 s4 h4 => ⟨by decide, fun p5 n5 => ⟨by decide, fun p6 n6 => ?_⟩⟩
    have h4' : SqT K H4 p4 ((Ct.mk .ge (List.replicate n 0) 0).e.map V.int) := by rw [Ct.e, List.map_append]; exact h4
    have s14 := (s12.trans (same_upd (o := .tup [V.int 0]) n3)).trans s4
    have hT : CtT K (upd H4 p5 (.tup [V.str (Str.ofString "ge"), V.ref p4])) p5 ⟨.ge, List.replicate n 0, 0⟩ := ⟨p4, SqT.of upd_same, sameT (same_upd n5) h4'⟩
    have s5 := same_upd (o := .tup [V.str (Str.ofString "ge"), V.ref p4]) n5
    have s6 := same_upd (o := .lst [V.ref p5]) n6
    have s16 := (s14.trans s5).trans s6
    have g0 := gn_zero n
    refine sys_make (A := A) (rs := [(p5, ⟨.ge, List.replicate n 0, 0⟩)]) (.inl (SqL.of upd_same)) (fun r hr => by rw [List.mem_singleton.mp hr]; exact hT.same s6) (fun r hr => by rw [List.mem_singleton.mp hr]; exact g0.wf (by omega)) (by omega) (Nat.le_of_ble_eq_true rfl) fun H7 xa dx ra s7 sx => ⟨by decide, fun p8 n8 => ⟨by decide, fun p9 n9 => ⟨p9, n, [V.int 0], rfl, rfl, SqT.of upd_same, by simp, by omega, by simp, fun H10 tb s10 h10 => ?_⟩⟩⟩
    rw [e0] at h10
    have s8 := same_upd (o := .tup [V.int 1]) n8
    have s9 := same_upd (o := .tup [V.int 0]) n9
    refine cat_sm (xs := [V.int 1]) (sameT (s9.trans s10) (SqT.of upd_same)) h10 (by rw [List.length_map, List.length_replicate, List.length_singleton]; omega) fun H11 p11 s11 h11 => ⟨by decide, fun p12 n12 => ?_⟩
    have s12' := same_upd (o := .tup [V.str (Str.ofString "split"), V.ref p11]) n12
    have s8z := (((s8.trans s9).trans s10).trans s11).trans s12'
    have sAll := (s16.trans s7).trans s8z
    have hrun := split_run n [⟨.ge, List.replicate n 0, 0⟩] (1 :: List.replicate (n - 1) 0) 0 (by rw [List.length_cons, List.length_replicate]; omega)
    have hmade := split_made n [⟨.ge, List.replicate n 0, 0⟩] (1 :: List.replicate (n - 1) 0) 0 (by rw [List.length_cons, List.length_replicate]; omega)
    rw [← one_snoc (by omega)] at hrun hmade
    have hGS := gs_one g0 rfl (show n ≤ 44 by omega)
    have hxs : ∀ x ∈ (1 : Int) :: List.replicate n 0, Sz 4 x := fun x hx => by
      rcases List.mem_cons.mp hx with rfl | hx
      · show Int.natAbs 1 < 16
        decide
      · rw [(List.mem_replicate.mp hx).2]
        exact Sz.zero _
    have hw := made_narrow hGS (fun t ht => by rw [List.mem_singleton.mp ht]; exact ⟨fun x hx => by rw [(List.mem_replicate.mp hx).2]; exact Sz.zero _, Sz.zero _, trivial⟩) (Nat.le_of_ble_eq_true rfl) (s := .split (1 :: List.replicate n 0)) hxs (fun z => z) hmade
    rw [hw, heavy2, if_neg (by decide : ¬ false = true)] at hrun
    refine ⟨xa, p12, (n, [⟨.ge, List.replicate n 0, 0⟩]), .split (1 :: List.replicate n 0), rfl, ⟨dx, ra, _, sx.same s8z, rfl⟩, hGS, ⟨p11, SqT.of upd_same, sameT s12' h11⟩, ⟨by rw [List.length_cons, List.length_replicate]; omega, fun x hx => (hxs x hx).mono (by decide)⟩, fun i z => ?_, fun H13 pm s13 hM => ⟨by decide, fun p14 n14 => ?_⟩⟩
    · rw [hrun] at z
      split at z <;> cases z
    · have s14' := same_upd (o := .tup [V.str (Str.ofString "many")]) n14
      by_cases h40 : 40 < n
      · rw [if_pos (by rw [decide_eq_true (show 40 < (n : Int) by omega)]; rfl)] at hrun
        rw [hrun] at hM
        refine out_eq (t := true) (hM.same s14') (SqT.of upd_same) (fun _ => by decide +kernel) (fun z => by cases z) (fun ys z => by cases z) (by decide +kernel) ⟨rfl, q_cast (t := true) (by rw [decide_eq_true (show 40 < (n : Int) by omega)]; rfl) (q _ ((sAll.trans s13).trans s14'))⟩
      · rw [if_neg (by rw [decide_eq_false (show ¬ 40 < (n : Int) by omega)]; exact Bool.false_ne_true)] at hrun
        rw [hrun] at hM
        refine out_eq (t := false) (hM.same s14') (SqT.of upd_same) (fun z => by cases z) (fun z => by cases z) (fun ys z => rfl) (by decide +kernel) ⟨rfl, q_cast (t := true) (by rw [decide_eq_false (show ¬ 40 < (n : Int) by omega)]; rfl) (q _ ((sAll.trans s13).trans s14'))⟩
theorem ok_law_great (T : Txt K mg A) : FnOk P w K mg base CX0 15 A.f_law_great A.d_law_great ["cell"] (sp_law_great K) := by
  have G_law_draws := ok_law_draws (w := w) (base := base) T
  have G_law_outcome := ok_law_outcome (w := w) (base := base) T
  have G_System___init__ := ok_System___init__ (w := w) (base := base) T
  refine T.F_law_great.ok sc_law_great (fun vs H Q E h => ?_) (fun cdv A' outer s H vs Q E hr h => ?_)
  · obtain ⟨c, rfl, _⟩ := h
    rfl
  · obtain ⟨c, rfl, hc, q⟩ := h
    have G_System___eq__ := ok_System___eq__ (w := w) (base := base) T
    have ⟨R, hR, kR⟩ : ∃ R, PSs (cxOf CX0 P w K mg base ["cell", "numbers", "number", "made"] "_law_great" (defScope s_law_great) A.f_law_great cdv A' outer s H E).nox ((defBody s_law_great).drop 3) R ∧ ∀ (H1 : Hp) (nl : Addr) (ds : List Int) (v : Int), Same H H1 → H1 nl = some (.lst (ds.map V.int)) → ds.length = 3 → Sz 61 v → R { nx := fun _ H' => Q .non H', rt := Q } [some (.int c), some (.ref nl), some (.int v), none] H1 := by
      refine ⟨_, (pss_cons (ps_set (i := 3) sc_law_great.nd rfl (Or.inl rfl) (pe_call G_law_outcome hr (by rfl) T.g_law_outcome T.F_law_outcome.kp T.B_law_outcome .nil pass0 (pa_cons (pe_make T.mk_System G_System___init__ (hr.mono (by decide)) (by rfl) T.gC_System T.B_System___init__ .nil pass0 (pa_cons pe_int (pa_cons (pe_lst (pa_cons (pe_tup (pa_cons pe_str (pa_cons (pe_tup (pa_cons pe_int (pa_cons pe_int pa_nil))) pa_nil))) pa_nil)) pa_nil))) (pa_cons (pe_tup (pa_cons pe_str (pa_cons (pe_tup (pa_cons (pv 2) (pa_cons pe_int pa_nil))) pa_nil))) pa_nil)))) 
    (pss_cons (ps_if (pt_cmpR op_eq (pe_op op_mod (pe_ix ix_list (pv 1) pe_int (fun _ _ => rfl)) pe_int) pe_int (nomark _)) 
      (pss_cons (ps_set (i := 3) sc_law_great.nd rfl (Or.inl rfl) (pe_call G_law_outcome hr (by rfl) T.g_law_outcome T.F_law_outcome.kp T.B_law_outcome .nil pass0 (pa_cons (pe_make T.mk_System G_System___init__ (hr.mono (by decide)) (by rfl) T.gC_System T.B_System___init__ .nil pass0 (pa_cons pe_int (pa_cons (pe_lst (pa_cons (pe_tup (pa_cons pe_str (pa_cons (pe_tup (pa_cons pe_int (pa_cons pe_int pa_nil))) pa_nil))) pa_nil)) pa_nil))) (pa_cons (pe_tup (pa_cons pe_str (pa_cons (pe_tup (pa_cons pe_int (pa_cons (pv 2) pa_nil))) pa_nil))) pa_nil)))) 
      (pss_one (ps_ret (pe_cmpR op_eq (pe_cmpR (op_or (op_eqD hr.units) (op_eqTF ⟨T.me_System___eq__.at_, T.me_System___eq__.fn⟩ G_System___eq__ (hr.mono (by decide)) T.B_System___eq__ pass0 T.sS)) (pv 3) (pe_tup (pa_cons pe_str pa_nil)) (nomark _)) (pe_or (pe_cmpR op_gt (pe_callB call_abs (by rfl) T.b_abs (by decide +kernel) (pa_cons (pv 2) pa_nil)) (pe_op op_pow pe_int pe_int) (nomark _)) (pe_one (pe_cmpR op_gt (pe_op op_add (pv 2) pe_int) (pe_op op_pow pe_int pe_int) (nomark _)))) (nomark _))))) pss_nil) 
    (pss_one (ps_ret (pe_cmpR op_eq (pe_cmpR (op_or (op_eqD hr.units) (op_eqTF ⟨T.me_System___eq__.at_, T.me_System___eq__.fn⟩ G_System___eq__ (hr.mono (by decide)) T.B_System___eq__ pass0 T.sS)) (pv 3) (pe_tup (pa_cons pe_str pa_nil)) (nomark _)) (pe_cmpR op_gt (pe_callB call_abs (by rfl) T.b_abs (by decide +kernel) (pa_cons (pv 2) pa_nil)) (pe_op op_pow pe_int pe_int) (nomark _)) (nomark _)))))), fun H1 nl ds v s1 e1 hl hv => ?_⟩
      walk_at "wp"
      obtain ⟨z2, ez2⟩ : ∃ z, ds[2]? = some z := ⟨_, List.getElem?_eq_getElem (by omega)⟩
      have ix2 : atI (ds.map V.int) ((2 : Nat) : Int) = some (V.int z2) := atI_nat (by rw [List.getElem?_map, ez2]; rfl)
      have e18 : (10 : Int) ^ (18 : Int).toNat = 1000000000000000000 := by decide
      have sz5 : Sz 64 5 := Sz.mono (a := 3) (show Int.natAbs (5 : Int) < 2 ^ 3 by decide) (by decide)
      refine ⟨by decide, fun p1 n1 => ⟨by decide, fun p2 n2 => ⟨by decide, fun p3 n3 => ?_⟩⟩⟩
      have a1 := same_upd (H := H1) (o := .tup [V.int 1, V.int 0]) n1
      have a2 := same_upd (o := .tup [V.str (Str.ofString "ge"), V.ref p1]) n2
      have a3 := same_upd (o := .lst [V.ref p2]) n3
      have hT : CtT K (upd (upd H1 p1 (.tup [V.int 1, V.int 0])) p2 (.tup [V.str (Str.ofString "ge"), V.ref p1])) p2 tOne := ⟨p1, SqT.of upd_same, sameT a2 (SqT.of upd_same)⟩
      refine sys_make (A := A) (n := 1) (rs := [(p2, tOne)]) (.inl (SqL.of upd_same)) (fun r hr => by rw [List.mem_singleton.mp hr]; exact hT.same a3) (fun r hr => by rw [List.mem_singleton.mp hr]; exact gn_one.wf (by decide)) (by decide) (Nat.le_of_ble_eq_true rfl) fun H17 xa1 dx ra s7 sx => ⟨by decide, fun p8 n8 => ⟨by decide, fun p9 n9 => ?_⟩⟩
      have a8 := same_upd (o := .tup [V.int v, V.int 5]) n8
      have a9 := same_upd (o := .tup [V.str (Str.ofString "split"), V.ref p8]) n9
      have aAll := (((s1.trans a1).trans a2).trans a3).trans (s7.trans (a8.trans a9))
      refine ⟨xa1, p9, (1, [tOne]), .split [v, 5], rfl, ⟨dx, ra, _, sx.same (a8.trans a9), rfl⟩, gs_one gn_one rfl (by decide), ⟨p8, SqT.of upd_same, sameT a9 (SqT.of upd_same)⟩, ⟨Nat.le_of_ble_eq_true rfl, fun x hx => ?_⟩, (fun i z => by rw [great_run] at z; split at z <;> cases z), fun H19 pm1 s13 hM1 => ?_⟩
      · rcases List.mem_cons.mp hx with rfl | hx
        · exact hv.mono (by decide)
        · rw [List.mem_singleton.mp hx]
          exact sz5
      have sm1 := aAll.trans s13
      rw [great_run] at hM1
      have e19 := (((((a1.trans a2).trans a3).trans (s7.trans (a8.trans a9))).trans s13)) _ _ e1
      refine ⟨_, SqL.of e19, _, ix2, z2, rfl, by decide, ?_⟩
      clear a1 a2 a3 a8 a9 hT aAll sx s7 s13
      by_cases k2 : z2 % 2 = 0
      · rw [if_pos (decide_eq_true k2)]
        refine ⟨by decide, fun p1 n1 => ⟨by decide, fun p2 n2 => ⟨by decide, fun p3 n3 => ?_⟩⟩⟩
        have a1 := same_upd (H := H19) (o := .tup [V.int 1, V.int 0]) n1
        have a2 := same_upd (o := .tup [V.str (Str.ofString "ge"), V.ref p1]) n2
        have a3 := same_upd (o := .lst [V.ref p2]) n3
        have hT : CtT K (upd (upd H19 p1 (.tup [V.int 1, V.int 0])) p2 (.tup [V.str (Str.ofString "ge"), V.ref p1])) p2 tOne := ⟨p1, SqT.of upd_same, sameT a2 (SqT.of upd_same)⟩
        refine sys_make (A := A) (n := 1) (rs := [(p2, tOne)]) (.inl (SqL.of upd_same)) (fun r hr => by rw [List.mem_singleton.mp hr]; exact hT.same a3) (fun r hr => by rw [List.mem_singleton.mp hr]; exact gn_one.wf (by decide)) (by decide) (Nat.le_of_ble_eq_true rfl) fun H27 xa2 dx ra s7 sx => ⟨by decide, fun p8 n8 => ⟨by decide, fun p9 n9 => ?_⟩⟩
        have a8 := same_upd (o := .tup [V.int 5, V.int v]) n8
        have a9 := same_upd (o := .tup [V.str (Str.ofString "split"), V.ref p8]) n9
        have aAll := (((sm1.trans a1).trans a2).trans a3).trans (s7.trans (a8.trans a9))
        refine ⟨xa2, p9, (1, [tOne]), .split [5, v], rfl, ⟨dx, ra, _, sx.same (a8.trans a9), rfl⟩, gs_one gn_one rfl (by decide), ⟨p8, SqT.of upd_same, sameT a9 (SqT.of upd_same)⟩, ⟨Nat.le_of_ble_eq_true rfl, fun x hx => ?_⟩, (fun i z => by rw [great_run] at z; split at z <;> cases z), fun H29 pm2 s13 hM2 => ?_⟩
        · rcases List.mem_cons.mp hx with rfl | hx
          · exact sz5
          · rw [List.mem_singleton.mp hx]
            exact hv.mono (by decide)
        have sm2 := aAll.trans s13
        rw [great_run] at hM2
        refine ⟨by decide, fun p14 n14 => ?_⟩
        have s14 := same_upd (o := .tup [V.str (Str.ofString "great")]) n14
        by_cases hb : 1000000000000000000 < (v.natAbs : Int)
        · rw [if_pos (.inr (.inl hb))] at hM2
          refine out_eq (t := true) (hM2.same s14) (SqT.of upd_same) (fun z => by cases z) (fun _ => by decide +kernel) (fun ys z => by cases z) (by decide +kernel) ⟨⟨by decide, by decide, by decide⟩, ?_⟩
          rw [if_pos (by rw [e18, abs_if]; exact decide_eq_true hb)]
          exact ⟨rfl, q_cast (t := true) rfl (q _ (sm2.trans s14))⟩
        · by_cases hv1 : 1000000000000000000 < v + 1
          · rw [if_pos (by omega)] at hM2
            refine out_eq (t := true) (hM2.same s14) (SqT.of upd_same) (fun z => by cases z) (fun _ => by decide +kernel) (fun ys z => by cases z) (by decide +kernel) ⟨⟨by decide, by decide, by decide⟩, ?_⟩
            rw [if_neg (by rw [e18, abs_if, decide_eq_false hb]; decide)]
            exact ⟨⟨by decide, by decide, by decide⟩, rfl, q_cast (t := true) (by rw [e18, decide_eq_true hv1]; rfl) (q _ (sm2.trans s14))⟩
          · rw [if_neg (by omega)] at hM2
            refine out_eq (t := false) (hM2.same s14) (SqT.of upd_same) (fun z => by cases z) (fun z => by cases z) (fun ys z => rfl) (by decide +kernel) ⟨⟨by decide, by decide, by decide⟩, ?_⟩
            rw [if_neg (by rw [e18, abs_if, decide_eq_false hb]; decide)]
            exact ⟨⟨by decide, by decide, by decide⟩, rfl, q_cast (t := true) (by rw [e18, decide_eq_false hv1]; rfl) (q _ (sm2.trans s14))⟩
      · rw [if_neg (by rw [decide_eq_true_eq]; exact k2)]
        refine ⟨by decide, fun p14 n14 => ?_⟩
        have s14 := same_upd (o := .tup [V.str (Str.ofString "great")]) n14
        by_cases hb : 1000000000000000000 < (v.natAbs : Int)
        · rw [if_pos (.inl hb)] at hM1
          refine out_eq (t := true) (hM1.same s14) (SqT.of upd_same) (fun z => by cases z) (fun _ => by decide +kernel) (fun ys z => by cases z) (by decide +kernel) ⟨⟨by decide, by decide, by decide⟩, rfl, q_cast (t := true) (by rw [e18, abs_if, decide_eq_true hb]; rfl) (q _ (sm1.trans s14))⟩
        · rw [if_neg (by omega)] at hM1
          refine out_eq (t := false) (hM1.same s14) (SqT.of upd_same) (fun z => by cases z) (fun z => by cases z) (fun ys z => rfl) (by decide +kernel) ⟨⟨by decide, by decide, by decide⟩, rfl, q_cast (t := true) (by rw [e18, abs_if, decide_eq_false hb]; rfl) (q _ (sm1.trans s14))⟩
    refine ⟨_, (pss_cons (ps_set (i := 1) sc_law_great.nd rfl (Or.inl rfl) (pe_call G_law_draws (hr.mono (by decide)) (by rfl) T.g_law_draws T.F_law_draws.kp T.B_law_draws .nil pass0 (pa_cons (pv 0) (pa_cons pe_int pa_nil)))) 
    (pss_cons (ps_set (i := 2) sc_law_great.nd rfl (Or.inl rfl) (pe_op op_add (pe_op op_sub (pe_op op_pow pe_int pe_int) pe_int) (pe_op op_mod (pe_ix ix_list (pv 1) pe_int (fun _ _ => rfl)) pe_int))) 
    (pss_cons (ps_if (pt_cmpR op_eq (pe_op op_mod (pe_ix ix_list (pv 1) pe_int (fun _ _ => rfl)) pe_int) pe_int (nomark _)) 
      (pss_one (ps_set (i := 2) sc_law_great.nd rfl (Or.inl rfl) (pe_un un_neg (pv 2)))) pss_nil) hR))), ?_⟩
    walk_at "wp"
    refine ⟨c, 3, rfl, hc, by omega, fun H1 nl ds s1 e1 _ hl => ?_⟩
    have dz : ∀ j : Nat, j < 3 → ∃ z, ds[j]? = some z := fun j hj => ⟨_, List.getElem?_eq_getElem (by omega)⟩
    have ix : ∀ (j : Nat) z, ds[j]? = some z → atI (ds.map V.int) (j : Int) = some (V.int z) := fun j z e => atI_nat (by rw [List.getElem?_map, e]; rfl)
    obtain ⟨z0, ez0⟩ := dz 0 (by decide)
    obtain ⟨z1, ez1⟩ := dz 1 (by decide)
    have hL := SqL.of (K := K) e1
    have e18 : (10 : Int) ^ (18 : Int).toNat = 1000000000000000000 := by decide
    refine ⟨⟨by decide, by decide, by decide⟩, nl, rfl, _, hL, _, ix 0 z0 ez0, z0, rfl, by decide, nl, rfl, _, hL, _, ix 1 z1 ez1, z1, rfl, by decide, ?_⟩
    rw [e18]
    have h7a := Int.emod_nonneg z0 (show (7 : Int) ≠ 0 by decide)
    have h7b := Int.emod_lt_of_pos z0 (show (0 : Int) < 7 by decide)
    have e61 : (2 : Nat) ^ 61 = 2305843009213693952 := by decide
    by_cases k1 : z1 % 2 = 0
    · rw [if_pos (decide_eq_true k1)]
      exact kR H1 nl ds _ s1 e1 hl (by show Int.natAbs _ < 2 ^ 61; omega)
    · rw [if_neg (by rw [decide_eq_true_eq]; exact k1)]
      exact kR H1 nl ds _ s1 e1 hl (by show Int.natAbs _ < 2 ^ 61; omega)
end
local macro_rules | `(tactic| walk_at "wp") => `(tactic| simp only [tSeq, tCKw, tAsg, tPar, gName, gTup, gCons, gNil, tVar, tC, tOp, tUn, rI, rI0, rU, tCB, tCons, tNil, tIfS, tRet, tRetN, tNext, tNever, test_eq, tB, tTup, tLst, tCall, tCallS, tCallLS, tMakeS, tAddS, tChain, rNotInO, rInO, iEnumT, iEnum, rIsnotB, rIsB, iZipM, tMkO, tIf, tAndV, tOrV, tNotV, tNot, tAnd, tOr, rEq, rNe, scal_ii, scal_ss, scal_bb, dec_ii, dec_ss, dec_bb, for_eq, lc_eq, lc2_eq, while_eq, tDrop, tYes, iList, iTup, iOr, tDNewN, tNSet, rNSet, sFld, tFld, tMake, tProp, tMeth, cxP, cxW, iStr, iRng1, iRng2, RZ.iZipA, L2.start, rIxL, rIxT, rIxS, rSlS, cxK, tSl, tPart, tNoPart, tBM, tBM0, rAppend, rExtend, rRepS, rGcd, s_ge_eq, s_ge_div, s_eq_ge, s_eq_div, s_div_ge, s_div_eq, gSub, rSetL, tAug, ipI, rAdd, rSub, tM1, tM0,
  List.map_cons, List.map_nil, List.length_cons, List.length_nil, List.cons_append, List.nil_append, List.append_nil, List.getElem?_cons_succ, List.getElem?_cons_zero, List.set_cons_succ, List.set_cons_zero, Nat.reduceAdd, Nat.reduceSub, List.replicate_succ, List.replicate_zero, wipe,
  Option.some.injEq, V.int.injEq, V.str.injEq, sgn_eq, V.ref.injEq, V.bl.injEq, exists_eq_left, exists_eq_left', exists_and_left, exists_eq_right, List.cons.injEq, and_true, true_and, ex_bl, ex_int, exists_const, Nat.zero_add, Int.toNat_natCast, Int.zero_add, and_assoc, reduceCtorEq, false_and, and_false, exists_false, or_false, false_or, eq_self, decide_true, decide_false, ite_true, ite_false, if_true, if_false, Bool.false_eq_true, Bool.not_true, Bool.not_false, ↓reduceIte])
/-! ### splits one after another, weighed -/
def spS (j : Nat) : Stp := .split [1, -100 - (j : Int)]
def wsum (l : List Sm) : Int := (l.map fun y => (y.2.length : Int) + 1).sum
def wN (R : Nat) : Nat → Int
  | 0 => (R : Int) + 1
  | j + 1 => wN R j + R + j + 3
theorem wN_mono (R : Nat) (j : Nat) : ∀ m : Nat, wN R j ≤ wN R (j + m)
  | 0 => Int.le_refl _
  | m + 1 => by
    have := wN_mono R j m
    rw [← Nat.add_assoc, wN]
    omega
theorem narrow1 {c d : Int} (hc : c.natAbs ≤ 1) (hd : d.natAbs ≤ 1000) : wideC ⟨.ge, [c], d⟩ = false := by
  refine bn_narrow ⟨fun x hx => ?_, ?_, trivial⟩
  · rw [List.mem_singleton.mp hx]
    exact Sz.mono (a := 1) (show c.natAbs < 2 ^ 1 by omega) (by decide)
  · exact Sz.mono (a := 10) (show d.natAbs < 2 ^ 10 by omega) (by decide)
def mk2 (j : Nat) (ts : List Ct) : List Sm := [(1, ⟨.ge, [1], -100 - (j : Int)⟩ :: ts), (1, opp [1] (-100 - (j : Int)) :: ts)]
theorem weigh (R : Nat) : ∀ (m j i : Nat) (ts : List Ct) (r : List Sm), (∀ t ∈ ts, wideC t = false) → (∀ z ∈ r, z.1 = 1) → (ts.length : Int) + 1 + wsum r = wN R j → ts.length = R + j → j + m ≤ 60 →
    (wN R (j + m) ≤ 4000 → ∃ ys, runP ((1, ts) :: r) ((List.range m).map fun k => spS (j + k)) i = .ok ys ∧ ys.length = 1 + r.length + m) ∧
    (m ≠ 0 → 4000 < wN R (j + m) → runP ((1, ts) :: r) ((List.range m).map fun k => spS (j + k)) i = .many)
  | 0, j, i, ts, r, _, _, _, _, _ => ⟨fun _ => ⟨_, rfl, by rw [List.length_cons]; omega⟩, fun h => absurd rfl h⟩
  | m + 1, j, i, ts, r, hn, hr, hw, hl, hj => by
    have el : (List.range (m + 1)).map (fun k => spS (j + k)) = spS j :: (List.range m).map fun k => spS (j + 1 + k) := by
      rw [List.range_succ_eq_map, List.map_cons, List.map_map, Nat.add_zero]
      congr 1
      refine List.map_congr_left fun k _ => ?_
      show spS (j + (k + 1)) = spS (j + 1 + k)
      congr 1
      omega
    rw [el]
    have em : madeP (1, ts) (spS j) = some (mk2 j ts) := split_made 1 ts [1] (-100 - (j : Int)) rfl
    have nm : ¬ Many (1, ts) (spS j) := fun z => z
    have hv : heavy (mk2 j ts ++ r) = decide (4000 < wN R (j + 1)) := by
      unfold heavy
      have h1 : (mk2 j ts ++ r).any (fun y => decide (40 < (y.1 : Int))) = false := List.any_eq_false.mpr fun z hz => by
        rw [decide_eq_true_eq]
        have : z.1 = 1 := by
          rcases List.mem_append.mp hz with h | h
          · rcases List.mem_cons.mp h with rfl | h
            · rfl
            · rw [List.mem_singleton.mp h]
          · exact hr z h
        omega
      rw [h1, Bool.false_or, sum_app, wN, ← hw]
      unfold mk2
      simp only [List.map_cons, List.map_nil, List.sum_cons, List.sum_nil, List.length_cons]
      rw [decide_eq_decide]
      show 4000 < _ + wsum r ↔ _
      omega
    have hwd : wide (mk2 j ts) = false := by
      refine List.any_eq_false.mpr fun z hz => ?_
      rw [Bool.not_eq_true]
      refine List.any_eq_false.mpr fun t ht => ?_
      rw [Bool.not_eq_true]
      rcases List.mem_cons.mp hz with rfl | hz
      · rcases List.mem_cons.mp ht with rfl | ht
        · exact narrow1 (by decide) (by omega)
        · exact hn t ht
      · rw [List.mem_singleton.mp hz] at ht
        rcases List.mem_cons.mp ht with rfl | ht
        · exact narrow1 (by decide) (by omega)
        · exact hn t ht
    have e1 : runP ((1, ts) :: r) (spS j :: (List.range m).map fun k => spS (j + 1 + k)) i = if decide (4000 < wN R (j + 1)) = true then .many else runP ((1, ⟨.ge, [1], -100 - (j : Int)⟩ :: ts) :: ((1, opp [1] (-100 - (j : Int)) :: ts) :: r)) ((List.range m).map fun k => spS (j + 1 + k)) (i + 1) := by
      conv => lhs; rw [runP, if_neg nm, em]
      show (if heavy (mk2 j ts ++ r) = true then Rs.many else if wide (mk2 j ts) = true then Rs.great else _) = _
      rw [hv, hwd]
      rfl
    rw [e1]
    have ej : j + (m + 1) = j + 1 + m := by omega
    rw [ej]
    by_cases h4 : 4000 < wN R (j + 1)
    · rw [if_pos (decide_eq_true h4)]
      have := wN_mono R (j + 1) m
      exact ⟨fun h => by omega, fun _ _ => rfl⟩
    · rw [if_neg (by rw [decide_eq_false h4]; decide)]
      obtain ⟨i1, i2⟩ := weigh R m (j + 1) (i + 1) (⟨.ge, [1], -100 - (j : Int)⟩ :: ts) ((1, opp [1] (-100 - (j : Int)) :: ts) :: r) (fun t ht => by
        rcases List.mem_cons.mp ht with rfl | ht
        · exact narrow1 (by decide) (by omega)
        · exact hn t ht) (fun z hz => by
        rcases List.mem_cons.mp hz with rfl | hz
        · rfl
        · exact hr z hz) (by
        rw [wN, ← hw]
        unfold wsum
        rw [List.map_cons, List.sum_cons, List.length_cons, List.length_cons]
        omega) (by rw [List.length_cons]; omega) (by omega)
      refine ⟨fun h => ?_, fun _ h => ?_⟩
      · obtain ⟨ys, e, hy⟩ := i1 h
        exact ⟨ys, e, by rw [hy, List.length_cons]; omega⟩
      · by_cases hm : m = 0
        · subst hm
          exact absurd h h4
        · exact i2 hm h
def sp_law_weighs (K : PySem.W.Frag) : Sp := fun vs H Q _ => ∃ S R : Nat, vs = [.int (S : Int), .int (R : Int)] ∧ S ≤ 59 ∧ R ≤ 70 ∧ ∀ H', Same H H' → Q (.bl true) H'
def tRow (k : Nat) : Ct := ⟨.ge, [1], (k : Int)⟩
section
variable {w : World} {K : PySem.W.Frag} {mg : Str → Option Value} {base : Heap} {A : Ad}
theorem ok_law_weighs (T : Txt K mg A) : FnOk P w K mg base CX0 13 A.f_law_weighs A.d_law_weighs ["splits", "rows"] (sp_law_weighs K) := by
  have G_System___init__ := ok_System___init__ (w := w) (base := base) T
  have G_remaining := ok_remaining (w := w) (base := base) T
  refine T.F_law_weighs.ok sc_law_weighs (fun vs H Q E h => ?_) (fun cdv A' outer s H vs Q E hr h => ?_)
  · obtain ⟨S, R, rfl, _⟩ := h
    rfl
  · obtain ⟨S, R, rfl, hS, hR, q⟩ := h
    refine ⟨_, (pss_cons (ps_set (i := 2) sc_law_weighs.nd rfl (Or.inl rfl) (pe_make T.mk_System G_System___init__ (hr.mono (by decide)) (by rfl) T.gC_System T.B_System___init__ .nil pass0 (pa_cons pe_int (pa_cons (pe_lc (own := [("k", 3)]) (by rfl) sc_law_weighs.nd (pi_range1 (by rfl) T.b_range (pa_cons (pv 1) pa_nil)) (blkOk_by (own := [("k", 3)]) (N := ["splits", "rows", "system", "k", "steps", "weight", "most", "left"]) (sc := defScope s_law_weighs) (by decide +kernel)) (fun _ _ _ _ _ => (pg_name (i := 3) sc_law_weighs.nd rfl (Or.inl rfl) (Or.inr rfl))) (fun _ _ _ _ _ => pts_nil) (fun _ _ _ _ _ => (pe_tup (pa_cons pe_str (pa_cons (pe_tup (pa_cons pe_int (pa_cons (pv 3) pa_nil))) pa_nil))))) pa_nil)))) 
    (pss_cons (ps_set (i := 4) sc_law_weighs.nd rfl (Or.inl rfl) (pe_callTy call_tuple_of (by rfl) T.b_tuple (by decide +kernel) (pa_cons (pe_lc (own := [("k", 3)]) (by rfl) sc_law_weighs.nd (pi_range1 (by rfl) T.b_range (pa_cons (pv 0) pa_nil)) (blkOk_by (own := [("k", 3)]) (N := ["splits", "rows", "system", "k", "steps", "weight", "most", "left"]) (sc := defScope s_law_weighs) (by decide +kernel)) (fun _ _ _ _ _ => (pg_name (i := 3) sc_law_weighs.nd rfl (Or.inl rfl) (Or.inr rfl))) (fun _ _ _ _ _ => pts_nil) (fun _ _ _ _ _ => (pe_tup (pa_cons pe_str (pa_cons (pe_tup (pa_cons pe_int (pa_cons (pe_op op_sub (pe_un un_neg pe_int) (pv 3)) pa_nil))) pa_nil))))) pa_nil))) 
    (pss_cons (ps_set (i := 5) sc_law_weighs.nd rfl (Or.inl rfl) (pe_op op_add (pv 1) pe_int)) 
    (pss_cons (ps_set (i := 6) sc_law_weighs.nd rfl (Or.inl rfl) (pv 5)) 
    (pss_cons (ps_for PassesOwn.never rfl (pi_range1 (by rfl) T.b_range (pa_cons (pv 0) pa_nil)) (pg_name (i := 3) sc_law_weighs.nd rfl (Or.inl rfl)) 
      (pss_cons (ps_set (i := 5) sc_law_weighs.nd rfl (Or.inl rfl) (pe_op op_add (pe_op op_add (pe_op op_add (pv 5) (pv 1)) (pv 3)) pe_int)) 
      (pss_one (ps_set (i := 6) sc_law_weighs.nd rfl (Or.inl rfl) (pe_callB (call_max2 rfl) (by rfl) T.b_max (by decide +kernel) (pa_cons (pv 6) (pa_cons (pv 5) pa_nil))))))) 
    (pss_cons (L2N.ps_try_many rfl rfl takesN0 (fun W pn xe tk _ => pss_one (ps_set (i := 7) sc_law_weighs.nd rfl (Or.inl rfl) (pe_callS G_remaining hr (by rfl) T.g_remaining T.F_remaining.kp T.B_remaining (fun σ => L2N.passAt tk σ) (pa_cons (pv 2) (pa_cons (pv 4) pa_nil))))) (.cons ⟨rfl, by decide, .inl T.tm.g⟩ (fun a oe cls d pn hz hf => pss_one (ps_ret (pe_and (pe_cmpR op_gt (pv 0) pe_int (nomark _)) (pe_one (pe_cmpR op_gt (pv 6) pe_int (nomark _)))))) .nil)) 
    (pss_one (ps_ret (pe_and (pe_or (pe_cmpR op_eq (pv 0) pe_int (nomark _)) (pe_one (pe_cmpR op_le (pv 6) pe_int (nomark _)))) (pe_one (pe_cmpR op_eq (pe_callB call_len_seq (by rfl) T.b_len (by decide +kernel) (pa_cons (pv 7) pa_nil)) (pe_op op_add (pv 0) pe_int) (nomark _)))))))))))), ?_⟩
    walk_at "wp"
    refine ⟨by omega, by omega, fun D nD0 => ?_⟩
    refine lc_rs (P := CtT K) ct_stay (walk_range0 (n := R)) ((List.range R).map tRow) nD0 (by omega) (by rw [List.length_map, List.length_range]) (fun H' s => trivial) ?_ (fun i x' y H1 H2 R' hi hy s1 yy kR => ?_) (fun H1 zs s1 e1 hO ez => ?_)
    · rintro i H x H' ⟨rfl, rfl⟩
      exact Same.refl _
    · obtain ⟨rfl, rfl⟩ := yy
      rw [List.getElem?_map, List.getElem?_range hi] at hy
      cases hy
      walk_at "wp"
      refine ⟨by decide, fun p1 n1 => ⟨by decide, fun p2 n2 => ?_⟩⟩
      exact kR _ p2 ((same_upd n1).trans (same_upd n2)) ⟨p1, SqT.of upd_same, sameT (same_upd n2) (SqT.of upd_same)⟩
    · have g1 : ∀ k, k ≤ 70 → Gn 1 (tRow k) := fun k hk => ⟨trivial, rfl, fun x hx => by rw [List.mem_singleton.mp hx]; exact Sz.mono (a := 1) (show Int.natAbs (1 : Int) < 2 ^ 1 by decide) (by decide), Sz.mono (a := 7) (show Int.natAbs (k : Int) < 2 ^ 7 by omega) (by decide), trivial⟩
      have hz : ∀ r ∈ zs, ∃ k, k ≤ 70 ∧ r.2 = tRow k := fun r hr => by
        have h : r.2 ∈ zs.map (·.2) := List.mem_map.mpr ⟨r, hr, rfl⟩
        rw [ez] at h
        obtain ⟨k, hk, e⟩ := List.mem_map.mp h
        rw [List.mem_range] at hk
        exact ⟨k, by omega, e.symm⟩
      have lz : zs.length = R := by rw [← List.length_map (f := (·.2)), ez, List.length_map, List.length_range]
      refine sys_make (A := A) (n := 1) (rs := zs) (.inl (SqL.of e1)) hO (fun r hr => by obtain ⟨k, hk, e⟩ := hz r hr; rw [e]; exact (g1 k hk).wf (by decide)) (by decide) (by omega) fun H2 xa dx ra s2 sx => ⟨by omega, by omega, fun D2 nD2 => ?_⟩
      refine lc_rs (P := StM K) stm_stay (walk_range0 (n := S)) ((List.range S).map spS) nD2 (by omega) (by rw [List.length_map, List.length_range]) (fun H' s => trivial) ?_ (fun i x' y H3 H4 R' hi hy s3 yy kR => ?_) (fun H3 ss s3 e3 hO3 es => ?_)
      · rintro i H x H' ⟨rfl, rfl⟩
        exact Same.refl _
      · obtain ⟨rfl, rfl⟩ := yy
        rw [List.getElem?_map, List.getElem?_range hi] at hy
        cases hy
        walk_at "wp"
        refine ⟨by decide, fun p1 n1 => ⟨by decide, fun p2 n2 => ?_⟩⟩
        exact kR _ p2 ((same_upd n1).trans (same_upd n2)) ⟨p1, SqT.of upd_same, sameT (same_upd n2) (SqT.of upd_same)⟩
      · have lss : ss.length = S := by rw [← List.length_map (f := (·.2)), es, List.length_map, List.length_range]
        refine ⟨_, .inl ⟨SqL.of e3, fun pt npt => ⟨by omega, by omega, ?_⟩⟩⟩
        have s4 := same_upd (o := .tup (rsv ss)) npt
        have e4 : upd H3 pt (.tup (rsv ss)) pt = some (.tup (rsv ss)) := upd_same
        generalize upd H3 pt (.tup (rsv ss)) = H4 at *
        refine loop_it (walk_range0 (n := S)) (fun i σ H' => H' = H4 ∧ ∃ v3, σ = [some (V.int (S : Int)), some (V.int (R : Int)), some (V.ref xa), v3, some (V.ref pt), some (V.int (wN R i)), some (V.int (wN R i)), none]) ⟨rfl, _, rfl⟩ (fun _ _ _ _ _ => trivial) ?_ ?_
        · rintro i x σ H5 H6 hi ⟨rfl, v3, rfl⟩ ⟨rfl, rfl⟩
          walk_at "wp"
          have ew : wN R i + (R : Int) + (i : Int) + 3 = wN R (i + 1) := rfl
          rw [ew]
          exact ⟨rfl, if_pos (by rw [← ew]; omega)⟩
        · rintro σ H5 ⟨rfl, v3, rfl⟩
          walk_at "wp"
          have hts : ∀ t ∈ cts zs, ∃ k, k ≤ 70 ∧ t = tRow k := fun t ht => by
            obtain ⟨r, hr, rfl⟩ := List.mem_map.mp ht
            exact hz r hr
          have hGS : GS 0 (1, cts zs) := ⟨fun t ht => by obtain ⟨k, hk, e⟩ := hts t ht; rw [e]; exact g1 k hk, by rw [cts, List.length_map]; omega, by
            show nD (cts zs) ≤ 0
            rw [nD_zero (fun t ht => by obtain ⟨k, hk, e⟩ := hts t ht; rw [e]; rfl)]
            exact Nat.le_refl _, show 1 ≤ 44 by decide⟩
          have hw := weigh R S 0 0 (cts zs) [] (fun t ht => by obtain ⟨k, hk, e⟩ := hts t ht; rw [e]; exact narrow1 (by decide) (by omega)) (fun z hz => by cases hz) (by rw [cts, List.length_map, lz]; show (R : Int) + 1 + 0 = (R : Int) + 1; omega) (by rw [cts, List.length_map, lz]; omega) (by omega)
          simp only [Nat.zero_add] at hw
          rw [← es] at hw
          refine ⟨xa, pt, (1, cts zs), ss, 0, rfl, ⟨dx, ra, zs, sx.same (s3.trans s4), rfl⟩, hGS, SqT.of e4, hO3.same stm_stay s4, fun s hs => ?_, by omega, ?_⟩
          · have h : s.2 ∈ ss.map (·.2) := List.mem_map.mpr ⟨s, hs, rfl⟩
            rw [es] at h
            obtain ⟨k, hk, e⟩ := List.mem_map.mp h
            rw [List.mem_range] at hk
            rw [← e]
            refine ⟨Nat.le_of_ble_eq_true rfl, fun x hx => ?_⟩
            rcases List.mem_cons.mp hx with rfl | hx
            · exact Sz.mono (a := 1) (show Int.natAbs (1 : Int) < 2 ^ 1 by decide) (by decide)
            · rw [List.mem_singleton.mp hx]
              exact Sz.mono (a := 10) (show Int.natAbs _ < 2 ^ 10 by omega) (by decide)
          · by_cases h4 : wN R S ≤ 4000
            · obtain ⟨ys, e, hy⟩ := hw.1 h4
              rw [e]
              intro H' p bs s' hp hb ey
              have lb : (rsv bs).length = S + 1 := by
                rw [rsv, List.length_map, ← List.length_map (f := (·.2)) (as := bs), ey, hy]
                show 1 + 0 + S = S + 1
                omega
              have sQ := ((((s1.trans s2).trans s3).trans s4)).trans s'
              have eq1 : decide (((rsv bs).length : Int) = (S : Int) + 1) = true := decide_eq_true (by rw [lb]; omega)
              by_cases h0 : (S : Int) = 0
              · rw [if_pos (decide_eq_true h0)]
                refine ⟨p, rfl, _, .inr hp, ?_⟩
                rw [eq1]
                exact q _ sQ
              · rw [if_neg (by rw [decide_eq_false h0]; decide), if_pos (decide_eq_true h4)]
                refine ⟨p, rfl, _, .inr hp, ?_⟩
                rw [eq1]
                exact q _ sQ
            · have hS0 : S ≠ 0 := fun z => h4 (by rw [z]; show (R : Int) + 1 ≤ 4000; omega)
              rw [hw.2 hS0 (by omega)]
              intro H' s'
              refine ⟨true, T.x1, fun _ b nb => ?_, fun z => (nomatch z)⟩
              walk_at "wp"
              rw [if_pos (decide_eq_true (by omega)), decide_eq_true (by omega)]
              exact q _ ((((s1.trans s2).trans s3).trans s4).trans s')
end
local macro_rules | `(tactic| walk_at "wp") => `(tactic| simp only [tSeq, tCKw, tAsg, tPar, gName, gTup, gCons, gNil, tVar, tC, tOp, tUn, rI, rI0, rU, tCB, tCons, tNil, tIfS, tRet, tRetN, tNext, tNever, test_eq, tB, tTup, tLst, tCall, tCallS, tCallLS, tMakeS, tAddS, tChain, rNotInO, rInO, iEnumT, iEnum, rIsnotB, rIsB, iZipM, tMkO, tIf, tAndV, tOrV, tNotV, tNot, tAnd, tOr, rEq, rNe, scal_ii, scal_ss, scal_bb, dec_ii, dec_ss, dec_bb, for_eq, lc_eq, lc2_eq, while_eq, tDrop, tYes, iList, iTup, iOr, tDNewN, tNSet, rNSet, sFld, tFld, tMake, tProp, tMeth, cxP, cxW, iStr, iRng1, iRng2, RZ.iZipA, L2.start, rIxL, rIxT, rIxS, rSlS, cxK, tSl, tPart, tNoPart, tBM, tBM0, rAppend, rExtend, rRepS, rGcd, s_ge_eq, s_ge_div, s_eq_ge, s_eq_div, s_div_ge, s_div_eq, gSub, rSetL, tAug, ipI, rAdd, rSub, tM1, tM0,
  List.map_cons, List.map_nil, List.length_cons, List.length_nil, List.cons_append, List.nil_append, List.append_nil, List.getElem?_cons_succ, List.getElem?_cons_zero, List.set_cons_succ, List.set_cons_zero, Nat.reduceAdd, Nat.reduceSub, List.replicate_succ, List.replicate_zero, wipe,
  Option.some.injEq, V.int.injEq, V.str.injEq, sgn_eq, V.ref.injEq, V.bl.injEq, exists_eq_left, exists_eq_left', exists_and_left, exists_eq_right, List.cons.injEq, and_true, true_and, ex_bl, ex_int, exists_const, Nat.zero_add, Int.toNat_natCast, Int.zero_add, and_assoc, reduceCtorEq, false_and, and_false, exists_false, or_false, false_or, eq_self, decide_true, decide_false, ite_true, ite_false, if_true, if_false, Bool.false_eq_true, Bool.not_true, Bool.not_false, ↓reduceIte])
/-- a drawn bound over one variable -/
def Cg (t : Ct) : Prop := ∃ a b : Int, t = ⟨.ge, [a], b⟩ ∧ 2 ≤ a.natAbs ∧ a.natAbs ≤ 61 ∧ b.natAbs ≤ 8
def sp_law_cases (K : PySem.W.Frag) : Sp := fun vs H Q _ => ∃ (c : Int) (m : Nat), vs = [.int c, .int (m : Int)] ∧ Sz 1048577 c ∧ m ≤ 30 ∧ ∀ H', Same H H' → Q (.bl true) H'
theorem cg_gn {t : Ct} (h : Cg t) : Gn 1 t := by
  obtain ⟨a, b, rfl, h1, h2, h3⟩ := h
  exact ⟨trivial, rfl, fun x hx => by rw [List.mem_singleton.mp hx]; exact Sz.mono (a := 6) (show a.natAbs < 2 ^ 6 by omega) (by decide), Sz.mono (a := 4) (show b.natAbs < 2 ^ 4 by omega) (by decide), trivial⟩
theorem cg_k {t : Ct} (h : Cg t) : t.k = .ge := by
  obtain ⟨a, b, rfl, _⟩ := h
  rfl
theorem cg_bn {t : Ct} (h : Cg t) : Bn 21 t := by
  obtain ⟨a, b, rfl, h1, h2, h3⟩ := h
  exact ⟨fun x hx => by rw [List.mem_singleton.mp hx]; exact Sz.mono (a := 6) (show a.natAbs < 2 ^ 6 by omega) (by decide), Sz.mono (a := 4) (show b.natAbs < 2 ^ 4 by omega) (by decide), trivial⟩
def posS (ts : List Ct) : Int := ((ts.filter fun t => decide (0 < co 0 t.ex)).map fun t => co 0 t.ex).sum
def negS (ts : List Ct) : Int := ((ts.filter fun t => decide (co 0 t.ex < 0)).map fun t => - co 0 t.ex).sum
def dueC (ts : List Ct) : Int := if 0 < posS ts ∧ 0 < negS ts then min (posS ts) (negS ts) else 1
theorem sum_ge {l : List Int} (h : ∀ x ∈ l, 1 ≤ x) : 0 ≤ l.sum ∧ (l ≠ [] → 0 < l.sum) := by
  induction l with
  | nil => exact ⟨Int.le_refl _, fun z => absurd rfl z⟩
  | cons x r ih =>
    have h1 := h x List.mem_cons_self
    have h2 := (ih fun y hy => h y (List.mem_cons_of_mem _ hy)).1
    rw [List.sum_cons]
    exact ⟨by omega, fun _ => by omega⟩
theorem low_cg {ts : List Ct} (h : ∀ t ∈ ts, Cg t) : (lowE 0 ts).map (co 0) = (ts.filter fun t => decide (0 < co 0 t.ex)).map fun t => co 0 t.ex := by
  rw [lowE, List.map_map]
  congr 1
  refine List.filter_congr fun t ht => ?_
  rw [decide_eq_decide]
  exact ⟨fun z => z.2, fun z => ⟨cg_k (h t ht), z⟩⟩
theorem upp_cg {ts : List Ct} (h : ∀ t ∈ ts, Cg t) : ((uppE 0 ts).map fun x => - co 0 x) = (ts.filter fun t => decide (co 0 t.ex < 0)).map fun t => - co 0 t.ex := by
  rw [uppE, List.map_map]
  congr 1
  refine List.filter_congr fun t ht => ?_
  rw [decide_eq_decide]
  exact ⟨fun z => z.2, fun z => ⟨cg_k (h t ht), z⟩⟩
theorem eq_cg {ts : List Ct} (h : ∀ t ∈ ts, Cg t) : eqE 0 ts = [] := by
  rw [eqE, List.map_eq_nil_iff, List.filter_eq_nil_iff]
  intro t ht
  rw [decide_eq_true_eq]
  intro z
  rw [cg_k (h t ht)] at z
  cases z.1
theorem div_cg {ts : List Ct} (h : ∀ t ∈ ts, Cg t) : divE 0 ts = [] := by
  rw [divE, divM_filter, List.map_eq_nil_iff, List.filter_eq_nil_iff]
  intro t ht
  rw [cg_k (h t (List.mem_filter.mp ht).1)]
  exact Bool.false_ne_true
theorem co_cg {t : Ct} (h : Cg t) : 2 ≤ (co 0 t.ex).natAbs ∧ (co 0 t.ex).natAbs ≤ 61 := by
  obtain ⟨a, b, rfl, h1, h2, h3⟩ := h
  exact ⟨h1, h2⟩
theorem pos_mem {ts : List Ct} (h : ∀ t ∈ ts, Cg t) : ∀ x ∈ (ts.filter fun t => decide (0 < co 0 t.ex)).map (fun t => co 0 t.ex), 2 ≤ x := fun x hx => by
  obtain ⟨t, ht, rfl⟩ := List.mem_map.mp hx
  have h1 := co_cg (h t (List.mem_filter.mp ht).1)
  have h2 := of_decide_eq_true (List.mem_filter.mp ht).2
  omega
theorem neg_mem {ts : List Ct} (h : ∀ t ∈ ts, Cg t) : ∀ x ∈ (ts.filter fun t => decide (co 0 t.ex < 0)).map (fun t => - co 0 t.ex), 2 ≤ x := fun x hx => by
  obtain ⟨t, ht, rfl⟩ := List.mem_map.mp hx
  have h1 := co_cg (h t (List.mem_filter.mp ht).1)
  have h2 := of_decide_eq_true (List.mem_filter.mp ht).2
  omega
theorem all_one {l : List Int} (h : ∀ x ∈ l, 2 ≤ x) : l.all (fun x => decide (x = 1)) = l.isEmpty := by
  cases l with
  | nil => rfl
  | cons x r =>
    have := h x List.mem_cons_self
    rw [List.all_cons, decide_eq_false (by omega)]
    rfl
/-- the rule and the number of the cases -/
theorem rule_cg {ts : List Ct} (h : ∀ t ∈ ts, Cg t) : (posS ts = 0 ∨ negS ts = 0) ∧ rule 0 ts = 2 ∧ (lowE 0 ts = [] ∨ uppE 0 ts = []) ∨ 0 < posS ts ∧ 0 < negS ts ∧ rule 0 ts = if posS ts ≤ negS ts then 4 else 5 := by
  have pm := pos_mem h
  have nm := neg_mem h
  have e : rule 0 ts = ruleN false false ((ts.filter fun t => decide (0 < co 0 t.ex)).map fun t => co 0 t.ex) ((ts.filter fun t => decide (co 0 t.ex < 0)).map fun t => - co 0 t.ex) := by
    rw [rule, eq_cg h, div_cg h, low_cg h, upp_cg h]
    rfl
  have l1 : (ts.filter fun t => decide (0 < co 0 t.ex)).map (fun t => co 0 t.ex) = [] → lowE 0 ts = [] := fun z => by
    have := low_cg h
    rw [z] at this
    exact List.map_eq_nil_iff.mp this
  have l2 : (ts.filter fun t => decide (co 0 t.ex < 0)).map (fun t => - co 0 t.ex) = [] → uppE 0 ts = [] := fun z => by
    have := upp_cg h
    rw [z] at this
    exact List.map_eq_nil_iff.mp this
  rw [e]
  unfold posS negS
  generalize (ts.filter fun t => decide (0 < co 0 t.ex)).map (fun t => co 0 t.ex) = al at *
  generalize (ts.filter fun t => decide (co 0 t.ex < 0)).map (fun t => - co 0 t.ex) = bl at *
  have R2 : ruleN false false al bl = if (al.all (fun x => decide (x = 1)) || bl.all (fun x => decide (x = 1))) = true then 2 else if al.isEmpty && bl.isEmpty then 3 else if bl.isEmpty || (!al.isEmpty && decide (al.sum ≤ bl.sum)) then 4 else 5 := rfl
  rw [R2, all_one pm, all_one nm]
  have sa := sum_ge fun x hx => (by have := pm x hx; omega : 1 ≤ x)
  have sb := sum_ge fun x hx => (by have := nm x hx; omega : 1 ≤ x)
  cases al with
  | nil => exact .inl ⟨.inl rfl, rfl, .inl (l1 rfl)⟩
  | cons a al =>
    cases bl with
    | nil => exact .inl ⟨.inr rfl, rfl, .inr (l2 rfl)⟩
    | cons b bl =>
      refine .inr ⟨sa.2 (by simp), sb.2 (by simp), ?_⟩
      by_cases z : (a :: al).sum ≤ (b :: bl).sum
      · rw [if_pos z]
        simp only [List.isEmpty_cons, Bool.or_self, Bool.false_eq_true, if_false, Bool.and_self, Bool.false_or, Bool.not_false, Bool.true_and, decide_eq_true z, if_true]
      · rw [if_neg z]
        simp only [List.isEmpty_cons, Bool.or_self, Bool.false_eq_true, if_false, Bool.and_self, Bool.false_or, Bool.not_false, Bool.true_and, decide_eq_false z]
theorem piv_sum {l : List Ex} (m : Int) (hm : m = 1) : ((l.map fun b => (b, ((co 0 b).natAbs : Int) * m)).map (·.2)).sum = (l.map fun b => ((co 0 b).natAbs : Int)).sum := by
  rw [List.map_map]
  congr 1
  refine List.map_congr_left fun b _ => ?_
  show ((co 0 b).natAbs : Int) * m = _
  rw [hm, Int.mul_one]
theorem count_cg {ts : List Ct} (h : ∀ t ∈ ts, Cg t) : countC 0 ts = dueC ts := by
  unfold dueC
  rcases rule_cg h with ⟨z, hr, _⟩ | ⟨h1, h2, hr⟩
  · rw [countC, if_pos hr, if_neg (by omega)]
  · rw [if_pos ⟨h1, h2⟩]
    have lc : lcmL (divE 0 ts) = 1 := by rw [div_cg h]; rfl
    have ep : ∀ l : List Ex, (∀ b ∈ l, 0 < co 0 b) → (l.map fun b => ((co 0 b).natAbs : Int)) = l.map (co 0) := fun l hl => List.map_congr_left fun b hb => by have := hl b hb; omega
    have en : ∀ l : List Ex, (∀ b ∈ l, co 0 b < 0) → (l.map fun b => ((co 0 b).natAbs : Int)) = l.map fun b => - co 0 b := fun l hl => List.map_congr_left fun b hb => by have := hl b hb; omega
    by_cases hle : posS ts ≤ negS ts
    · rw [if_pos hle] at hr
      rw [countC, hr, if_neg (by decide), if_neg (by decide), pivots, hr, if_neg (by decide), if_neg (by decide), if_pos rfl, piv_sum _ lc, ep _ (fun b hb => by obtain ⟨t, _, _, t3, rfl⟩ := low_mem.mp hb; exact t3), low_cg h, Int.min_eq_left hle]
      rfl
    · rw [if_neg hle] at hr
      rw [countC, hr, if_neg (by decide), if_neg (by decide), pivots, hr, if_neg (by decide), if_neg (by decide), if_neg (by decide), piv_sum _ lc, en _ (fun b hb => by obtain ⟨t, _, _, t3, rfl⟩ := upp_mem.mp hb; exact t3), upp_cg h, Int.min_eq_right (by omega)]
      rfl
theorem many_cg {ts : List Ct} (h : ∀ t ∈ ts, Cg t) (hl : ts.length ≤ 100) : Many (1, ts) (.cases 0) ↔ 200 < dueC ts := by
  rw [← count_cg h]
  refine ⟨fun z => ?_, fun z => ⟨show (0 : Nat) < 1 by decide, .inl z⟩⟩
  rcases z.2 with z | ⟨hr, z⟩
  · exact z
  · exfalso
    rcases rule_cg h with ⟨_, _, he⟩ | ⟨_, _, hr'⟩
    · have ho : (othE 0 ts).length ≤ 100 := Nat.le_trans (List.length_filter_le _ _) hl
      dsimp only at z
      rcases he with he | he
      · rw [he] at z
        simp at z
        omega
      · rw [he] at z
        simp at z
        omega
    · rw [hr'] at hr
      split at hr <;> cases hr
/-- the outcome of the cases of a drawn system -/
theorem run_cg {ts : List Ct} (h : ∀ t ∈ ts, Cg t) (hl : ts.length ≤ 100) : (200 < dueC ts ∧ runP [(1, ts)] [.cases 0] 0 = .many) ∨ (¬ 200 < dueC ts ∧ ∃ ys, runP [(1, ts)] [.cases 0] 0 = .ok ys) := by
  have hGS : GS 100 (1, ts) := ⟨fun t ht => cg_gn (h t ht), by dsimp only; omega, Nat.le_trans (nD_le ts) hl, show 1 ≤ 44 by decide⟩
  rcases run1 (1, ts) (.cases 0) 0 with ⟨m, hr⟩ | ⟨m, ⟨e, hr⟩ | ⟨ys, e, hh⟩⟩
  · exact .inl ⟨(many_cg h hl).mp m, hr⟩
  · rw [madeP, if_pos (show 0 < 1 by decide)] at e
    cases e
  · refine .inr ⟨fun z => m ((many_cg h hl).mpr z), ?_⟩
    have hw := made_narrow hGS (fun t ht => cg_bn (h t ht)) (by dsimp only; omega) (s := .cases 0) trivial m e
    have hc : ¬ 200 < countC 0 ts := fun z => m ⟨show (0 : Nat) < 1 by decide, .inl z⟩
    have hv : heavy ys = false := by
      rw [madeP, if_pos (show 0 < 1 by decide)] at e
      cases e
      have key : ∀ (l : List Nat), (∀ i ∈ l, (i : Int) < countC 0 ts) → ((l.map fun (i : Nat) => ((1 - 1, rrows (1 - 1) [] (caseRows 0 ts (i : Int))) : Sm)).map fun y => (y.2.length : Int) + 1).sum ≤ 2 * l.length := fun l => by
        induction l with
        | nil => intro _; exact Int.le_refl _
        | cons i r ih =>
          intro hi
          have h1 := ih fun j hj => hi j (List.mem_cons_of_mem _ hj)
          have hI := hi i List.mem_cons_self
          rw [List.map_cons, List.map_cons, List.sum_cons, List.length_cons]
          have hG : ∀ r ∈ ts.map fun t => ((0 : Addr), t), Gn 1 r.2 := fun r hr => by
            obtain ⟨t, ht, rfl⟩ := List.mem_map.mp hr
            exact cg_gn (h t ht)
          have wf := case_wf hG (by rw [cts_zero]; exact hGS.nd) (show 0 < 1 by decide) (by decide) (i := (i : Int)) (by omega) (by rw [cts_zero]; exact hI) (by omega)
          rw [cts_zero] at wf
          have h2 : (rrows (1 - 1) [] (caseRows 0 ts (i : Int))).length ≤ 1 := by
            rcases rrows0 (caseRows 0 ts (i : Int)) (fun t ht => List.eq_nil_of_length_eq_zero (wf t ht).len) with e | e
            · rw [show (1 - 1 : Nat) = 0 from rfl, e]; exact Nat.le_refl _
            · rw [show (1 - 1 : Nat) = 0 from rfl, e]; exact Nat.zero_le _
          dsimp only at h1 h2 ⊢
          omega
      unfold heavy
      rw [Bool.or_eq_false_iff]
      refine ⟨List.any_eq_false.mpr fun z hz => ?_, decide_eq_false ?_⟩
      · obtain ⟨i, _, rfl⟩ := List.mem_map.mp hz
        rw [decide_eq_true_eq]
        show ¬ (40 < ((1 - 1 : Nat) : Int))
        decide
      · have := key (List.range (countC 0 ts).toNat) (fun i hi => by rw [List.mem_range] at hi; omega)
        rw [List.length_range] at this
        exact Int.not_lt.mpr (Int.le_trans this (by omega))
    rcases hh with ⟨z, _⟩ | ⟨_, z, _⟩ | ⟨_, _, hr⟩
    · rw [hv] at z; cases z
    · rw [hw] at z; cases z
    · exact ⟨ys, hr⟩
section
variable {w : World} {K : PySem.W.Frag} {mg : Str → Option Value} {base : Heap} {A : Ad}
theorem ok_law_cases (T : Txt K mg A) : FnOk P w K mg base CX0 15 A.f_law_cases A.d_law_cases ["cell", "size"] (sp_law_cases K) := by
  have G_law_draws := ok_law_draws (w := w) (base := base) T
  have G_System___init__ := ok_System___init__ (w := w) (base := base) T
  have G_case_count := ok_case_count (w := w) (base := base) T
  have G_law_outcome := ok_law_outcome (w := w) (base := base) T
  refine T.F_law_cases.ok sc_law_cases (fun vs H Q E h => ?_) (fun cdv A' outer s H vs Q E hr h => ?_)
  · obtain ⟨c, m, rfl, _⟩ := h
    rfl
  · obtain ⟨c, m, rfl, hc, hm, q⟩ := h
    have G_System___eq__ := ok_System___eq__ (w := w) (base := base) T
    refine ⟨_, (pss_cons (ps_set (i := 2) sc_law_cases.nd rfl (Or.inl rfl) (pe_call G_law_draws (hr.mono (by decide)) (by rfl) T.g_law_draws T.F_law_draws.kp T.B_law_draws .nil pass0 (pa_cons (pv 0) (pa_cons (pe_op op_add (pv 1) pe_int) pa_nil)))) 
    (pss_cons (ps_set (i := 3) sc_law_cases.nd rfl (Or.inl rfl) (pe_lst pa_nil)) 
    (pss_cons (ps_for PassesOwn.never rfl (pi_list (pe_slice sl_list (pv 2) (po_some pe_int) po_none)) (pg_name (i := 4) sc_law_cases.nd rfl (Or.inl rfl)) 
      (pss_cons (ps_set (i := 5) sc_law_cases.nd rfl (Or.inl rfl) (pe_op op_sub pe_int (pe_op op_mulX pe_int (pe_op op_mod (pv 4) pe_int)))) 
      (pss_one (ps_expr (pe_bm PySem.F.plainAttrs_list PySem.F.slot_list_append PySem.F.type_list_append mt_append (pv 3) (pa_cons (pe_tup (pa_cons pe_str (pa_cons (pe_tup (pa_cons (pe_op op_mulX (pv 5) (pe_op op_add pe_int (pe_op op_mod (pe_op op_fdiv (pv 4) pe_int) (pe_op op_add pe_int (pe_op op_mod (pe_ix ix_list (pv 2) pe_int (fun _ _ => rfl)) pe_int))))) (pa_cons (pe_op op_mod (pv 4) pe_int) pa_nil))) pa_nil))) pa_nil)))))) 
    (pss_cons (ps_set (i := 6) sc_law_cases.nd rfl (Or.inl rfl) (pe_make T.mk_System G_System___init__ (hr.mono (by decide)) (by rfl) T.gC_System T.B_System___init__ .nil pass0 (pa_cons pe_int (pa_cons (pv 3) pa_nil)))) 
    (pss_cons (ps_set (i := 7) sc_law_cases.nd rfl (Or.inl rfl) (pe_call G_case_count (hr.mono (by decide)) (by rfl) T.g_case_count T.F_case_count.kp T.B_case_count .nil pass0 (pa_cons (pv 6) (pa_cons pe_int pa_nil)))) 
    (pss_cons (ps_set (i := 8) sc_law_cases.nd rfl (Or.inl rfl) (pe_callB (cr_sum rfl) (by rfl) T.b_sum (by decide +kernel) (pa_cons (pe_lc (own := [("row", 9)]) (by rfl) sc_law_cases.nd (pi_list (pv 3)) (blkOk_by (own := [("row", 9)]) (N := ["cell", "size", "numbers", "rows", "number", "sign", "system", "count", "low", "row", "up", "due"]) (sc := defScope s_law_cases) (by decide +kernel)) (fun _ _ _ _ _ => (pg_name (i := 9) sc_law_cases.nd rfl (Or.inl rfl) (Or.inr rfl))) (fun _ _ _ _ _ => pts_one (pt_cmpR op_gt (pe_ix (r := rIxT K) ix_tup (pe_ix (r := rIxT K) ix_tup (pv 9) pe_int (fun _ _ => rfl)) pe_int (fun _ _ => rfl)) pe_int (nomark _))) (fun _ _ _ _ _ => (pe_ix (r := rIxT K) ix_tup (pe_ix (r := rIxT K) ix_tup (pv 9) pe_int (fun _ _ => rfl)) pe_int (fun _ _ => rfl)))) pa_nil))) 
    (pss_cons (ps_set (i := 10) sc_law_cases.nd rfl (Or.inl rfl) (pe_callB (cr_sum rfl) (by rfl) T.b_sum (by decide +kernel) (pa_cons (pe_lc (own := [("row", 9)]) (by rfl) sc_law_cases.nd (pi_list (pv 3)) (blkOk_by (own := [("row", 9)]) (N := ["cell", "size", "numbers", "rows", "number", "sign", "system", "count", "low", "row", "up", "due"]) (sc := defScope s_law_cases) (by decide +kernel)) (fun _ _ _ _ _ => (pg_name (i := 9) sc_law_cases.nd rfl (Or.inl rfl) (Or.inr rfl))) (fun _ _ _ _ _ => pts_one (pt_cmpR op_lt (pe_ix (r := rIxT K) ix_tup (pe_ix (r := rIxT K) ix_tup (pv 9) pe_int (fun _ _ => rfl)) pe_int (fun _ _ => rfl)) pe_int (nomark _))) (fun _ _ _ _ _ => (pe_un un_neg (pe_ix (r := rIxT K) ix_tup (pe_ix (r := rIxT K) ix_tup (pv 9) pe_int (fun _ _ => rfl)) pe_int (fun _ _ => rfl))))) pa_nil))) 
    (pss_cons (ps_set (i := 11) sc_law_cases.nd rfl (Or.inl rfl) pe_int) 
    (pss_cons (ps_if (PW.pt (pw_and (pt_cmpR op_gt (pv 8) pe_int (nomark _)) (pw_and1 (pt_cmpR op_gt (pv 10) pe_int (nomark _))))) 
      (pss_one (ps_set (i := 11) sc_law_cases.nd rfl (Or.inl rfl) (pe_callB (call_min2 rfl) (by rfl) T.b_min (by decide +kernel) (pa_cons (pv 8) (pa_cons (pv 10) pa_nil))))) pss_nil) 
    (pss_cons (ps_if (pt_cmpR op_ne (pv 7) (pv 11) (nomark _)) 
      (pss_one (ps_ret pe_bl)) pss_nil) 
    (pss_one (ps_ret (pe_cmpR op_eq (pe_cmpR (op_or (op_eqD hr.units) (op_eqTF ⟨T.me_System___eq__.at_, T.me_System___eq__.fn⟩ G_System___eq__ (hr.mono (by decide)) T.B_System___eq__ pass0 T.sS)) (pe_call G_law_outcome hr (by rfl) T.g_law_outcome T.F_law_outcome.kp T.B_law_outcome .nil pass0 (pa_cons (pv 6) (pa_cons (pe_tup (pa_cons pe_str (pa_cons pe_int pa_nil))) pa_nil))) (pe_tup (pa_cons pe_str pa_nil)) (nomark _)) (pe_cmpR op_gt (pv 7) pe_int (nomark _)) (nomark _)))))))))))))), ?_⟩
    walk_at "wp"
    refine ⟨c, m + 2, by rw [Int.natCast_add]; rfl, hc, by omega, fun H1 nl ds s1 e1 _ hl => ⟨by decide, fun D nD0 => ⟨nl, _, rfl, SqL.of ((same_upd nD0) _ _ e1), fun p2 n2 => ?_⟩⟩⟩
    have ec : cutV (ds.map V.int) (some 2) none = (ds.drop 2).map V.int := by
      unfold cutV
      rw [show HT.sIx (ds.map V.int).length 0 (some 2) = min 2 (ds.map V.int).length from HT.sIx_nat _ 0 2, HT.sIx_none, List.length_map, hl, show min 2 (m + 2) = 2 by omega, ← List.map_drop, List.take_of_length_le (by rw [List.length_map, List.length_drop]; omega)]
    rw [ec]
    have sD := same_upd (o := .lst []) nD0
    have s2 := same_upd (o := .lst ((ds.drop 2).map V.int)) n2
    have sDg := sD
    have s2g := s2
    have e12 := s2 _ _ (sD _ _ e1)
    have eD2 := s2 _ _ (upd_same (H := H1) (a := D) (o := .lst []))
    have s02 := s1.trans (sD.trans s2)
    have ex2 : upd (upd H1 D (.lst [])) p2 (.lst ((ds.drop 2).map V.int)) p2 = some (.lst ((ds.drop 2).map V.int)) := upd_same
    have nl0 : ∃ z, ds[0]? = some z := ⟨_, List.getElem?_eq_getElem (by omega)⟩
    obtain ⟨z0, ez0⟩ := nl0
    have ix0 : atI (ds.map V.int) ((0 : Nat) : Int) = some (V.int z0) := atI_nat (by rw [List.getElem?_map, ez0]; rfl)
    have ld : (ds.drop 2).length = m := by rw [List.length_drop]; omega
    have neD : ∀ {a o}, H1 a = some o → a ≠ D := fun {a o} e z => by rw [z, nD0] at e; cases e
    have nep : p2 ≠ D := fun z => by rw [z, upd_same] at n2; cases n2
    generalize ds.drop 2 = ns at *
    generalize upd (upd H1 D (.lst [])) p2 (.lst (ns.map V.int)) = H2 at *
    refine ⟨p2, rfl, ⟨_, SqL.of ex2⟩, ?_⟩
    have hD2 : ∀ {a o}, H1 a = some o → H2 a = some o := fun {a o} e => s2g _ _ (sDg _ _ e)
    refine loop_it (walk_list (xs := ns.map V.int)) (fun i σ H' => ∃ (rs : List Rw) (v4 v5 : Option V), σ = [some (V.int c), some (V.int (m : Int)), some (V.ref nl), some (V.ref D), v4, v5, none, none, none, none, none, none] ∧ Same H1 H' ∧ H' D = some (.lst (rv rs)) ∧ H' p2 = some (.lst (ns.map V.int)) ∧ RwOk K H' rs ∧ (∀ r ∈ rs, Cg r.2) ∧ rs.length = i) ⟨[], none, none, rfl, fun a o e => hD2 e, eD2, ex2, (fun r hr => by cases hr), (fun r hr => by cases hr), rfl⟩ (fun i σ H' _ pw => by obtain ⟨_, _, _, _, _, _, e, _⟩ := pw; exact SqL.of e) ?_ ?_
    · rintro i x σ H3 H4 hi ⟨rs, v4, v5, rfl, s3, e3, x3, o3, g3, l3⟩ yy
      obtain ⟨rfl, e⟩ := yat_at yy
      rw [List.length_map] at hi
      rw [List.getElem?_map, List.getElem?_eq_getElem hi] at e
      cases e
      generalize ns[i] = z at *
      have h2a := Int.emod_nonneg z (show (2 : Int) ≠ 0 by decide)
      have h2b := Int.emod_lt_of_pos z (show (0 : Int) < 2 by decide)
      have h60a := Int.emod_nonneg z0 (show (60 : Int) ≠ 0 by decide)
      have h60b := Int.emod_lt_of_pos z0 (show (0 : Int) < 60 by decide)
      have h9a := Int.emod_nonneg z (show (9 : Int) ≠ 0 by decide)
      have h9b := Int.emod_lt_of_pos z (show (0 : Int) < 9 by decide)
      have hqa := Int.emod_nonneg (z / 2) (show 1 + z0 % 60 ≠ 0 by omega)
      have hqb := Int.emod_lt_of_pos (z / 2) (show 0 < 1 + z0 % 60 by omega)
      walk_at "wp"
      have ec1 := s3 _ _ e1
      have eD0 : H D = none := by
        cases z : H D with
        | none => rfl
        | some o => exact absurd (s1 _ _ z) (by rw [nD0]; intro z; cases z)
      have sg : (1 - 2 * (z % 2)) = 1 ∨ (1 - 2 * (z % 2)) = -1 := by omega
      have u7 : ∀ x : Int, x.natAbs < 128 → Sz 7 x := fun x h => h
      refine ⟨by decide, ⟨7, 7, u7 2 (by decide), u7 _ (by omega), by decide⟩, .inl ⟨rfl, _, SqL.of e3⟩, ⟨by decide, by decide⟩, _, SqL.of ec1, _, ix0, z0, rfl, by decide, by omega, ⟨7, 7, u7 _ (by omega), u7 _ (by omega), by decide⟩, by decide, by decide, fun p5 n5 => ⟨by decide, fun p6 n6 => ?_⟩⟩
      have hcg : Cg ⟨.ge, [(1 - 2 * (z % 2)) * (2 + z / 2 % (1 + z0 % 60))], z % 9⟩ := by
        refine ⟨_, _, rfl, ?_⟩
        generalize z / 2 % (1 + z0 % 60) = w at *
        rcases sg with e | e
        · rw [e]; omega
        · rw [e]; omega
      generalize (1 - 2 * (z % 2)) * (2 + z / 2 % (1 + z0 % 60)) = w at *
      have s5 := same_upd (o := .tup [V.int w, V.int (z % 9)]) n5
      have s6 := same_upd (o := .tup [V.str (Str.ofString "ge"), V.ref p5]) n6
      have e36 := s6 _ _ (s5 _ _ e3)
      have hT : CtT K (upd (upd H4 p5 (.tup [V.int w, V.int (z % 9)])) p6 (.tup [V.str (Str.ofString "ge"), V.ref p5])) p6 ⟨.ge, [w], z % 9⟩ := ⟨p5, SqT.of upd_same, sameT s6 (SqT.of upd_same)⟩
      have o36 := o3.same (s5.trans s6)
      have s36 := s3.trans (s5.trans s6)
      have x36 := s6 _ _ (s5 _ _ x3)
      generalize upd (upd H4 p5 (.tup [V.int w, V.int (z % 9)])) p6 (.tup [V.str (Str.ofString "ge"), V.ref p5]) = H5 at *
      refine ⟨_, e36, smallM (by rw [rv, List.length_map]; omega), fun a o e => ?_, rs ++ [(p6, ⟨.ge, [w], z % 9⟩)], ?_, ?_, rw_app (Same.refl _) e36 o36 hT, fun r hr => ?_, ?_⟩
      · rw [upd_ne (neD e)]
        exact s36 _ _ e
      · rw [upd_same, rv_app]
      · rw [upd_ne nep]
        exact x36
      · rcases List.mem_append.mp hr with h | h
        · exact g3 r h
        · rw [List.mem_singleton.mp h]
          exact hcg
      · rw [List.length_append, List.length_singleton, l3]
    · rintro σ H3 ⟨rs, v4, v5, rfl, s3, e3, x3, o3, g3, l3⟩
      walk_at "wp"
      rw [List.length_map] at l3
      have hcg : ∀ t ∈ cts rs, Cg t := fun t ht => by
        obtain ⟨r, hr, rfl⟩ := List.mem_map.mp ht
        exact g3 r hr
      have lct : (cts rs).length ≤ 30 := by rw [cts, List.length_map]; omega
      have hGS : GS 100 (1, cts rs) := ⟨fun t ht => cg_gn (hcg t ht), by dsimp only; omega, Nat.le_trans (nD_le _) (by dsimp only; omega), show 1 ≤ 44 by decide⟩
      refine sys_make (A := A) (n := 1) (rs := rs) (.inl (SqL.of e3)) o3 (fun r hr => (cg_gn (g3 r hr)).wf (by decide)) (by decide) (by omega) fun H4 xa dx ra s4 sx => ?_
      refine ⟨xa, dx, ra, 1, 0, rs, rfl, sx, fun r hr => cg_gn (g3 r hr), by omega, Nat.le_trans (nD_le _) (by omega), by decide, by decide, fun H5 s5 => ?_⟩
      have s35 := s4.trans s5
      have e5 := s35 _ _ e3
      have row : ∀ (r : Rw) (H' : Hp), r ∈ rs → Same H5 H' → ∃ a, SqT K H' r.1 [V.str (Str.ofString "ge"), V.ref a] ∧ SqT K H' a (r.2.e.map V.int) ∧ atI (r.2.e.map V.int) ((0 : Nat) : Int) = some (V.int (co 0 r.2.ex)) := fun r H' hr s => by
        obtain ⟨a, h1, h2⟩ := (o3 r hr).same (s35.trans s)
        rw [cg_k (g3 r hr)] at h1
        exact ⟨a, h1, h2, atC (by rw [(cg_gn (g3 r hr)).len]; decide)⟩
      refine ⟨⟨_, SqL.of e5⟩, fun Da nDa => lc_vsG (walk_list (xs := rsv rs)) (fun t => decide (0 < co 0 t.ex)) (fun t => V.int (co 0 t.ex)) nDa (by omega) (fun H' s => SqL.of (s _ _ e5)) (fun r H' N R' hr s6 kN kR => ?_) (fun H6 s6 e6 => ?_)⟩
      · obtain ⟨a, h1, h2, h3⟩ := row r H' hr s6
        walk_at "wp"
        refine ⟨_, h1, _, rfl, a, rfl, _, h2, _, h3, _, rfl, ?_⟩
        by_cases z : 0 < co 0 r.2.ex
        · rw [if_pos (decide_eq_true z)]
          exact ⟨_, h1, _, rfl, a, rfl, _, h2, _, h3, kR (decide_eq_true z) _ (Same.refl _)⟩
        · rw [if_neg (by rw [decide_eq_false z]; exact Bool.false_ne_true)]
          exact kN (decide_eq_false z) _ (Same.refl _)
      · refine ⟨Da, ((cts rs).filter fun t => decide (0 < co 0 t.ex)).map fun t => co 0 t.ex, rfl, SqL.of (by rw [e6, List.map_map]; rfl), ?_⟩
        have e56 := s6 _ _ e5
        refine ⟨⟨_, SqL.of e56⟩, fun Db nDb => lc_vsG (walk_list (xs := rsv rs)) (fun t => decide (co 0 t.ex < 0)) (fun t => V.int (- co 0 t.ex)) nDb (by omega) (fun H' s => SqL.of (s _ _ e56)) (fun r H' N R' hr s7 kN kR => ?_) (fun H7 s7 e7 => ?_)⟩
        · obtain ⟨a, h1, h2, h3⟩ := row r H' hr (s6.trans s7)
          walk_at "wp"
          refine ⟨_, h1, _, rfl, a, rfl, _, h2, _, h3, _, rfl, ?_⟩
          by_cases z : co 0 r.2.ex < 0
          · rw [if_pos (decide_eq_true z)]
            exact ⟨_, h1, _, rfl, a, rfl, _, h2, _, h3, _, rfl, kR (decide_eq_true z) _ (Same.refl _)⟩
          · rw [if_neg (by rw [decide_eq_false z]; exact Bool.false_ne_true)]
            exact kN (decide_eq_false z) _ (Same.refl _)
        · refine ⟨Db, ((cts rs).filter fun t => decide (co 0 t.ex < 0)).map fun t => - co 0 t.ex, rfl, SqL.of (by rw [e7, List.map_map]; rfl), ?_⟩
          have sQ : Same H H7 := s1.trans ((s3.trans s35).trans (s6.trans s7))
          have hcc := count_cg hcg
          have tail : ∀ v : Int, v = countC 0 (cts rs) → scal (V.int (countC 0 (cts rs))) (V.int v) = true ∧ if (!decide (V.int (countC 0 (cts rs)) = V.int v)) = true then Q (V.bl false) H7 else 2 ≤ sizeLine ∧ ∀ (p : Addr), H7 p = none → sp_law_outcome A K [V.ref xa, V.ref p] (upd H7 p (HO.tup [V.str (Str.ofString "cases"), V.int 0])) (fun x H1 => 1 ≤ sizeLine ∧ ∀ (p : Addr), H1 p = none → rOr (rEqD K) (rEqTF K A.C_System (sp_System___eq__ A K)) x (V.ref p) (upd H1 p (HO.tup [V.str (Str.ofString "many")])) fun x H1 => ∃ i, V.int (countC 0 (cts rs)) = V.int i ∧ scal x (V.bl (decide (200 < i))) = true ∧ Q (V.bl (decide (x = V.bl (decide (200 < i))))) H1) E0 := fun v hv => by
            subst hv
            refine ⟨rfl, ?_⟩
            rw [if_neg (by rw [decide_eq_true rfl]; exact Bool.false_ne_true)]
            refine ⟨by decide, fun p8 n8 => ?_⟩
            have s8 := same_upd (o := .tup [V.str (Str.ofString "cases"), V.int 0]) n8
            refine ⟨xa, p8, (1, cts rs), .cases 0, rfl, ⟨dx, ra, _, sx.same ((s5.trans (s6.trans s7)).trans s8), rfl⟩, hGS, SqT.of upd_same, trivial, fun i z => ?_, fun H9 pm s9 hM => ⟨by decide, fun p10 n10 => ?_⟩⟩
            · rcases run_cg hcg (by omega) with ⟨_, e⟩ | ⟨_, ys, e⟩
              · rw [e] at z; cases z
              · rw [e] at z; cases z
            · have s10 := same_upd (o := .tup [V.str (Str.ofString "many")]) n10
              have sF := ((sQ.trans s8).trans s9).trans s10
              rcases run_cg hcg (by omega) with ⟨hb, e⟩ | ⟨hb, ys, e⟩
              · rw [e] at hM
                rw [hcc]
                exact out_eq (t := true) (hM.same s10) (SqT.of upd_same) (fun _ => by decide +kernel) (fun z => by cases z) (fun ys z => by cases z) (by decide +kernel) ⟨_, rfl, rfl, q_cast (t := true) (by rw [decide_eq_true hb]; rfl) (q _ sF)⟩
              · rw [e] at hM
                rw [hcc]
                exact out_eq (t := false) (hM.same s10) (SqT.of upd_same) (fun z => by cases z) (fun z => by cases z) (fun ys z => rfl) (by decide +kernel) ⟨_, rfl, rfl, q_cast (t := true) (by rw [decide_eq_false hb]; rfl) (q _ sF)⟩
          rw [hcc] at tail ⊢
          unfold dueC at tail ⊢
          refine ⟨posS (cts rs), rfl, ?_⟩
          by_cases hp : 0 < posS (cts rs)
          · rw [if_pos (decide_eq_true hp)]
            refine ⟨negS (cts rs), rfl, ?_⟩
            by_cases hn : 0 < negS (cts rs)
            · rw [if_pos (decide_eq_true hn)]
              refine ⟨_, rfl, _, rfl, tail _ ?_⟩
              rw [if_pos (⟨hp, hn⟩ : 0 < posS (cts rs) ∧ 0 < negS (cts rs))]
              show (if negS (cts rs) < posS (cts rs) then negS (cts rs) else posS (cts rs)) = _
              split <;> omega
            · rw [if_neg (by rw [decide_eq_false hn]; exact Bool.false_ne_true)]
              exact tail _ (by rw [if_neg (by omega)])
          · rw [if_neg (by rw [decide_eq_false hp]; exact Bool.false_ne_true)]
            exact tail _ (by rw [if_neg (by omega)])
end
local macro_rules | `(tactic| walk_at "wp") => `(tactic| simp only [tSeq, tCKw, tAsg, tPar, gName, gTup, gCons, gNil, tVar, tC, tOp, tUn, rI, rI0, rU, tCB, tCons, tNil, tIfS, tRet, tRetN, tNext, tNever, test_eq, tB, tTup, tLst, tCall, tCallS, tCallLS, tMakeS, tAddS, tChain, rNotInO, rInO, iEnumT, iEnum, rIsnotB, rIsB, iZipM, tMkO, tIf, tAndV, tOrV, tNotV, tNot, tAnd, tOr, rEq, rNe, scal_ii, scal_ss, scal_bb, dec_ii, dec_ss, dec_bb, for_eq, lc_eq, lc2_eq, while_eq, tDrop, tYes, iList, iTup, iOr, tDNewN, tNSet, rNSet, sFld, tFld, tMake, tProp, tMeth, cxP, cxW, iStr, iRng1, iRng2, RZ.iZipA, L2.start, rIxL, rIxT, rIxS, rSlS, cxK, tSl, tPart, tNoPart, tBM, tBM0, rAppend, rExtend, rRepS, rGcd, s_ge_eq, s_ge_div, s_eq_ge, s_eq_div, s_div_ge, s_div_eq, gSub, rSetL, tAug, ipI, rAdd, rSub, tM1, tM0,
  List.map_cons, List.map_nil, List.length_cons, List.length_nil, List.cons_append, List.nil_append, List.append_nil, List.getElem?_cons_succ, List.getElem?_cons_zero, List.set_cons_succ, List.set_cons_zero, Nat.reduceAdd, Nat.reduceSub, List.replicate_succ, List.replicate_zero, wipe,
  Option.some.injEq, V.int.injEq, V.str.injEq, sgn_eq, V.ref.injEq, V.bl.injEq, exists_eq_left, exists_eq_left', exists_and_left, exists_eq_right, List.cons.injEq, and_true, true_and, ex_bl, ex_int, exists_const, Nat.zero_add, Int.toNat_natCast, Int.zero_add, and_assoc, reduceCtorEq, false_and, and_false, exists_false, or_false, false_or, eq_self, decide_true, decide_false, ite_true, ite_false, if_true, if_false, Bool.false_eq_true, Bool.not_true, Bool.not_false, ↓reduceIte])
section
variable {w : World} {K : PySem.W.Frag} {mg : Str → Option Value} {base : Heap} {A : Ad}
theorem ok_law (T : Txt K mg A) : FnOk P w K mg base CX0 16 A.f_law A.d_law ["script"] (sp_law K) := by
  have G_law_weighs := ok_law_weighs (w := w) (base := base) T
  have G_law_cases := ok_law_cases (w := w) (base := base) T
  have G_law_cell := ok_law_cell (w := w) (base := base) T
  have G_law_great := ok_law_great (w := w) (base := base) T
  have G_law_wide := ok_law_wide (w := w) (base := base) T
  refine T.F_law.ok sc_law (fun vs H Q E h => ?_) (fun cdv A' outer s H vs Q E hr h => ?_)
  · obtain ⟨l, ns, rfl, _⟩ := h
    rfl
  · obtain ⟨l, ns, rfl, hS, hb, q⟩ := h
    refine ⟨_, (pss_cons (ps_if (pt_not (pt_val (pe_call G_law_cases hr (by rfl) T.g_law_cases T.F_law_cases.kp T.B_law_cases .nil pass0 (pa_cons (pe_call G_law_cell (hr.mono (by decide)) (by rfl) T.g_law_cell T.F_law_cell.kp T.B_law_cell .nil pass0 (pa_cons (pv 0) (pa_cons pe_int pa_nil))) (pa_cons (pe_op op_mod (pe_callTy call_intI (by rfl) T.b_int (by decide +kernel) (pa_cons (pe_call G_law_cell (hr.mono (by decide)) (by rfl) T.g_law_cell T.F_law_cell.kp T.B_law_cell .nil pass0 (pa_cons (pv 0) (pa_cons pe_int pa_nil))) pa_nil)) pe_int) pa_nil))))) 
      (pss_one (ps_ret pe_bl)) pss_nil) 
    (pss_cons (ps_if (PW.pt (pw_or (pt_not (pt_val (pe_call G_law_great hr (by rfl) T.g_law_great T.F_law_great.kp T.B_law_great .nil pass0 (pa_cons (pe_call G_law_cell (hr.mono (by decide)) (by rfl) T.g_law_cell T.F_law_cell.kp T.B_law_cell .nil pass0 (pa_cons (pv 0) (pa_cons pe_int pa_nil))) pa_nil)))) (pw_or1 (pt_not (pt_val (pe_call G_law_wide hr (by rfl) T.g_law_wide T.F_law_wide.kp T.B_law_wide .nil pass0 (pa_cons (pe_call G_law_cell (hr.mono (by decide)) (by rfl) T.g_law_cell T.F_law_cell.kp T.B_law_cell .nil pass0 (pa_cons (pv 0) (pa_cons pe_int pa_nil))) pa_nil))))))) 
      (pss_one (ps_ret pe_bl)) pss_nil) 
    (pss_one (ps_ret (pe_call G_law_weighs (hr.mono (by decide)) (by rfl) T.g_law_weighs T.F_law_weighs.kp T.B_law_weighs .nil pass0 (pa_cons (pe_op op_mod (pe_callTy call_intI (by rfl) T.b_int (by decide +kernel) (pa_cons (pe_call G_law_cell (hr.mono (by decide)) (by rfl) T.g_law_cell T.F_law_cell.kp T.B_law_cell .nil pass0 (pa_cons (pv 0) (pa_cons pe_int pa_nil))) pa_nil)) pe_int) (pa_cons (pe_op op_mod (pe_callTy call_intI (by rfl) T.b_int (by decide +kernel) (pa_cons (pe_call G_law_cell (hr.mono (by decide)) (by rfl) T.g_law_cell T.F_law_cell.kp T.B_law_cell .nil pass0 (pa_cons (pv 0) (pa_cons pe_int pa_nil))) pa_nil)) pe_int) pa_nil))))))), ?_⟩
    walk_at "wp"
    have md : ∀ (c k : Int) (m : Nat), k = ((m + 1 : Nat) : Int) → ∃ n : Nat, n ≤ m ∧ c % k = (n : Int) := fun c k m hk => ⟨(c % k).toNat, by
      have := Int.emod_lt_of_pos c (show 0 < k by omega)
      have := Int.emod_nonneg c (show k ≠ 0 by omega)
      omega, by
      have := Int.emod_nonneg c (show k ≠ 0 by omega)
      omega⟩
    refine ⟨l, ns, 0, rfl, hS, l, ns, 1, rfl, hS, _, rfl, by decide, ?_⟩
    obtain ⟨m, hm, em⟩ := md (cellOf ns 1) 31 30 rfl
    rw [em]
    refine ⟨_, m, rfl, sz_cell hb _, hm, fun H1 s1 => ⟨_, rfl, ?_⟩⟩
    rw [if_neg (by decide)]
    refine ⟨l, ns, 2, rfl, s1.seq hS, _, rfl, sz_cell hb _, fun H2 s2 => ⟨_, rfl, ?_⟩⟩
    rw [if_neg (by decide)]
    have s12 := s1.trans s2
    refine ⟨l, ns, 3, rfl, s12.seq hS, _, rfl, fun H3 s3 => ⟨_, rfl, ?_⟩⟩
    rw [if_neg (by decide)]
    have s13 := s12.trans s3
    refine ⟨l, ns, 4, rfl, s13.seq hS, _, rfl, by decide, l, ns, 5, rfl, s13.seq hS, _, rfl, by decide, ?_⟩
    obtain ⟨a, ha, ea⟩ := md (cellOf ns 4) 60 59 rfl
    obtain ⟨b, hb', eb⟩ := md (cellOf ns 5) 71 70 rfl
    rw [ea, eb]
    exact ⟨a, b, rfl, ha, hb', fun H4 s4 => q _⟩
end
theorem all_mk {K : PySem.W.Frag} {h : Heap} {mg : Str → Option Value} {fa : Addr} (X : K.In h) (G : h.Ns mainGlobals mg) (hfa : mg "law" = some (.ref fa))
    {xC xf xcc xc : Addr} {xd : FuncData} {xM xG xW xS : Addr} (TX_ : TA0 K mg xC xf xcc xc xd xM xG xW xS)
    {x_Elimination : Addr}
    {x_System : Addr}
    {x_is_integer : Addr} {od_is_integer an_is_integer : Option Addr} {sl_is_integer : Array (Option Value)} {oc_is_integer kV_is_integer dc_is_integer pm_is_integer cd_is_integer ct_is_integer : Value}
    {x_is_tuple_of_integers : Addr} {od_is_tuple_of_integers an_is_tuple_of_integers : Option Addr} {sl_is_tuple_of_integers : Array (Option Value)} {oc_is_tuple_of_integers kV_is_tuple_of_integers dc_is_tuple_of_integers pm_is_tuple_of_integers cd_is_tuple_of_integers ct_is_tuple_of_integers : Value}
    {x_is_constraint : Addr} {od_is_constraint an_is_constraint : Option Addr} {sl_is_constraint : Array (Option Value)} {oc_is_constraint kV_is_constraint dc_is_constraint pm_is_constraint cd_is_constraint ct_is_constraint : Value}
    {x_impossible : Addr} {od_impossible an_impossible : Option Addr} {sl_impossible : Array (Option Value)} {oc_impossible kV_impossible dc_impossible pm_impossible cd_impossible ct_impossible : Value}
    {x_common_divisor : Addr} {od_common_divisor an_common_divisor : Option Addr} {sl_common_divisor : Array (Option Value)} {oc_common_divisor kV_common_divisor dc_common_divisor pm_common_divisor cd_common_divisor ct_common_divisor : Value}
    {x_divided : Addr} {od_divided an_divided : Option Addr} {sl_divided : Array (Option Value)} {oc_divided kV_divided dc_divided pm_divided cd_divided ct_divided : Value}
    {x_reduced_inequality : Addr} {od_reduced_inequality an_reduced_inequality : Option Addr} {sl_reduced_inequality : Array (Option Value)} {oc_reduced_inequality kV_reduced_inequality dc_reduced_inequality pm_reduced_inequality cd_reduced_inequality ct_reduced_inequality : Value}
    {x_reduced_equation : Addr} {od_reduced_equation an_reduced_equation : Option Addr} {sl_reduced_equation : Array (Option Value)} {oc_reduced_equation kV_reduced_equation dc_reduced_equation pm_reduced_equation cd_reduced_equation ct_reduced_equation : Value}
    {x_reduced_multiple : Addr} {od_reduced_multiple an_reduced_multiple : Option Addr} {sl_reduced_multiple : Array (Option Value)} {oc_reduced_multiple kV_reduced_multiple dc_reduced_multiple pm_reduced_multiple cd_reduced_multiple ct_reduced_multiple : Value}
    {x_reduced_constraint : Addr} {od_reduced_constraint an_reduced_constraint : Option Addr} {sl_reduced_constraint : Array (Option Value)} {oc_reduced_constraint kV_reduced_constraint dc_reduced_constraint pm_reduced_constraint cd_reduced_constraint ct_reduced_constraint : Value}
    {x_reduced_rows : Addr} {od_reduced_rows an_reduced_rows : Option Addr} {sl_reduced_rows : Array (Option Value)} {oc_reduced_rows kV_reduced_rows dc_reduced_rows pm_reduced_rows cd_reduced_rows ct_reduced_rows : Value}
    {x_System___init__ : Addr} {od_System___init__ an_System___init__ : Option Addr} {sl_System___init__ : Array (Option Value)} {oc_System___init__ kV_System___init__ dc_System___init__ pm_System___init__ cd_System___init__ ct_System___init__ : Value}
    {x_System_is_impossible : Addr} {od_System_is_impossible an_System_is_impossible : Option Addr} {sl_System_is_impossible : Array (Option Value)} {oc_System_is_impossible kV_System_is_impossible dc_System_is_impossible pm_System_is_impossible cd_System_is_impossible ct_System_is_impossible : Value}
    {y_System_is_impossible : Addr} {rs_System_is_impossible : List Value}
    {x_System_reduced : Addr} {od_System_reduced an_System_reduced : Option Addr} {sl_System_reduced : Array (Option Value)} {oc_System_reduced kV_System_reduced dc_System_reduced pm_System_reduced cd_System_reduced ct_System_reduced : Value}
    {x_System___add__ : Addr} {od_System___add__ an_System___add__ : Option Addr} {sl_System___add__ : Array (Option Value)} {oc_System___add__ kV_System___add__ dc_System___add__ pm_System___add__ cd_System___add__ ct_System___add__ : Value}
    {x_System___eq__ : Addr} {od_System___eq__ an_System___eq__ : Option Addr} {sl_System___eq__ : Array (Option Value)} {oc_System___eq__ kV_System___eq__ dc_System___eq__ pm_System___eq__ cd_System___eq__ ct_System___eq__ : Value}
    {x_System_weight : Addr} {od_System_weight an_System_weight : Option Addr} {sl_System_weight : Array (Option Value)} {oc_System_weight kV_System_weight dc_System_weight pm_System_weight cd_System_weight ct_System_weight : Value}
    {y_System_weight : Addr} {rs_System_weight : List Value}
    {x_add : Addr} {od_add an_add : Option Addr} {sl_add : Array (Option Value)} {oc_add kV_add dc_add pm_add cd_add ct_add : Value}
    {x_multiply : Addr} {od_multiply an_multiply : Option Addr} {sl_multiply : Array (Option Value)} {oc_multiply kV_multiply dc_multiply pm_multiply cd_multiply ct_multiply : Value}
    {x_difference : Addr} {od_difference an_difference : Option Addr} {sl_difference : Array (Option Value)} {oc_difference kV_difference dc_difference pm_difference cd_difference ct_difference : Value}
    {x_with_constant_added : Addr} {od_with_constant_added an_with_constant_added : Option Addr} {sl_with_constant_added : Array (Option Value)} {oc_with_constant_added kV_with_constant_added dc_with_constant_added pm_with_constant_added cd_with_constant_added ct_with_constant_added : Value}
    {x_without : Addr} {od_without an_without : Option Addr} {sl_without : Array (Option Value)} {oc_without kV_without dc_without pm_without cd_without ct_without : Value}
    {x_changed : Addr} {od_changed an_changed : Option Addr} {sl_changed : Array (Option Value)} {oc_changed kV_changed dc_changed pm_changed cd_changed ct_changed : Value}
    {x_common_multiple : Addr} {od_common_multiple an_common_multiple : Option Addr} {sl_common_multiple : Array (Option Value)} {oc_common_multiple kV_common_multiple dc_common_multiple pm_common_multiple cd_common_multiple ct_common_multiple : Value}
    {x_Elimination_rule_for : Addr} {od_Elimination_rule_for an_Elimination_rule_for : Option Addr} {sl_Elimination_rule_for : Array (Option Value)} {oc_Elimination_rule_for kV_Elimination_rule_for dc_Elimination_rule_for pm_Elimination_rule_for cd_Elimination_rule_for ct_Elimination_rule_for : Value}
    {x_Elimination_pivots_for : Addr} {od_Elimination_pivots_for an_Elimination_pivots_for : Option Addr} {sl_Elimination_pivots_for : Array (Option Value)} {oc_Elimination_pivots_for kV_Elimination_pivots_for dc_Elimination_pivots_for pm_Elimination_pivots_for cd_Elimination_pivots_for ct_Elimination_pivots_for : Value}
    {x_Elimination___init__ : Addr} {od_Elimination___init__ an_Elimination___init__ : Option Addr} {sl_Elimination___init__ : Array (Option Value)} {oc_Elimination___init__ kV_Elimination___init__ dc_Elimination___init__ pm_Elimination___init__ cd_Elimination___init__ ct_Elimination___init__ : Value}
    {x_Elimination_count_cases : Addr} {od_Elimination_count_cases an_Elimination_count_cases : Option Addr} {sl_Elimination_count_cases : Array (Option Value)} {oc_Elimination_count_cases kV_Elimination_count_cases dc_Elimination_count_cases pm_Elimination_count_cases cd_Elimination_count_cases ct_Elimination_count_cases : Value}
    {x_Elimination_count_joined : Addr} {od_Elimination_count_joined an_Elimination_count_joined : Option Addr} {sl_Elimination_count_joined : Array (Option Value)} {oc_Elimination_count_joined kV_Elimination_count_joined dc_Elimination_count_joined pm_Elimination_count_joined cd_Elimination_count_joined ct_Elimination_count_joined : Value}
    {x_Elimination_joined_rows : Addr} {od_Elimination_joined_rows an_Elimination_joined_rows : Option Addr} {sl_Elimination_joined_rows : Array (Option Value)} {oc_Elimination_joined_rows kV_Elimination_joined_rows dc_Elimination_joined_rows pm_Elimination_joined_rows cd_Elimination_joined_rows ct_Elimination_joined_rows : Value}
    {x_Elimination_put_in : Addr} {od_Elimination_put_in an_Elimination_put_in : Option Addr} {sl_Elimination_put_in : Array (Option Value)} {oc_Elimination_put_in kV_Elimination_put_in dc_Elimination_put_in pm_Elimination_put_in cd_Elimination_put_in ct_Elimination_put_in : Value}
    {x_Elimination_equation_at : Addr} {od_Elimination_equation_at an_Elimination_equation_at : Option Addr} {sl_Elimination_equation_at : Array (Option Value)} {oc_Elimination_equation_at kV_Elimination_equation_at dc_Elimination_equation_at pm_Elimination_equation_at cd_Elimination_equation_at ct_Elimination_equation_at : Value}
    {x_Elimination_solved_rows : Addr} {od_Elimination_solved_rows an_Elimination_solved_rows : Option Addr} {sl_Elimination_solved_rows : Array (Option Value)} {oc_Elimination_solved_rows kV_Elimination_solved_rows dc_Elimination_solved_rows pm_Elimination_solved_rows cd_Elimination_solved_rows ct_Elimination_solved_rows : Value}
    {x_Elimination_case_at : Addr} {od_Elimination_case_at an_Elimination_case_at : Option Addr} {sl_Elimination_case_at : Array (Option Value)} {oc_Elimination_case_at kV_Elimination_case_at dc_Elimination_case_at pm_Elimination_case_at cd_Elimination_case_at ct_Elimination_case_at : Value}
    {x_cases : Addr} {od_cases an_cases : Option Addr} {sl_cases : Array (Option Value)} {oc_cases kV_cases dc_cases pm_cases cd_cases ct_cases : Value}
    {x_case_count : Addr} {od_case_count an_case_count : Option Addr} {sl_case_count : Array (Option Value)} {oc_case_count kV_case_count dc_case_count pm_case_count cd_case_count ct_case_count : Value}
    {x_is_multiplier : Addr} {od_is_multiplier an_is_multiplier : Option Addr} {sl_is_multiplier : Array (Option Value)} {oc_is_multiplier kV_is_multiplier dc_is_multiplier pm_is_multiplier cd_is_multiplier ct_is_multiplier : Value}
    {x_are_multipliers : Addr} {od_are_multipliers an_are_multipliers : Option Addr} {sl_are_multipliers : Array (Option Value)} {oc_are_multipliers kV_are_multipliers dc_are_multipliers pm_are_multipliers cd_are_multipliers ct_are_multipliers : Value}
    {x_added : Addr} {od_added an_added : Option Addr} {sl_added : Array (Option Value)} {oc_added kV_added dc_added pm_added cd_added ct_added : Value}
    {x_split_by : Addr} {od_split_by an_split_by : Option Addr} {sl_split_by : Array (Option Value)} {oc_split_by kV_split_by dc_split_by pm_split_by cd_split_by ct_split_by : Value}
    {x_closed : Addr} {od_closed an_closed : Option Addr} {sl_closed : Array (Option Value)} {oc_closed kV_closed dc_closed pm_closed cd_closed ct_closed : Value}
    {x_check_case_counts : Addr} {od_check_case_counts an_check_case_counts : Option Addr} {sl_check_case_counts : Array (Option Value)} {oc_check_case_counts kV_check_case_counts dc_check_case_counts pm_check_case_counts cd_check_case_counts ct_check_case_counts : Value}
    {x_split_into_cases : Addr} {od_split_into_cases an_split_into_cases : Option Addr} {sl_split_into_cases : Array (Option Value)} {oc_split_into_cases kV_split_into_cases dc_split_into_cases pm_split_into_cases cd_split_into_cases ct_split_into_cases : Value}
    {x_made_by : Addr} {od_made_by an_made_by : Option Addr} {sl_made_by : Array (Option Value)} {oc_made_by kV_made_by dc_made_by pm_made_by cd_made_by ct_made_by : Value}
    {x_check_left : Addr} {od_check_left an_check_left : Option Addr} {sl_check_left : Array (Option Value)} {oc_check_left kV_check_left dc_check_left pm_check_left cd_check_left ct_check_left : Value}
    {x_check_numbers : Addr} {od_check_numbers an_check_numbers : Option Addr} {sl_check_numbers : Array (Option Value)} {oc_check_numbers kV_check_numbers dc_check_numbers pm_check_numbers cd_check_numbers ct_check_numbers : Value}
    {x_left_behind : Addr} {od_left_behind an_left_behind : Option Addr} {sl_left_behind : Array (Option Value)} {oc_left_behind kV_left_behind dc_left_behind pm_left_behind cd_left_behind ct_left_behind : Value}
    {x_remaining : Addr} {od_remaining an_remaining : Option Addr} {sl_remaining : Array (Option Value)} {oc_remaining kV_remaining dc_remaining pm_remaining cd_remaining ct_remaining : Value}
    {x_apply_step : Addr} {od_apply_step an_apply_step : Option Addr} {sl_apply_step : Array (Option Value)} {oc_apply_step kV_apply_step dc_apply_step pm_apply_step cd_apply_step ct_apply_step : Value}
    {x_law_cell : Addr} {od_law_cell an_law_cell : Option Addr} {sl_law_cell : Array (Option Value)} {oc_law_cell kV_law_cell dc_law_cell pm_law_cell cd_law_cell ct_law_cell : Value}
    {x_law_draws : Addr} {od_law_draws an_law_draws : Option Addr} {sl_law_draws : Array (Option Value)} {oc_law_draws kV_law_draws dc_law_draws pm_law_draws cd_law_draws ct_law_draws : Value}
    {x_law_outcome : Addr} {od_law_outcome an_law_outcome : Option Addr} {sl_law_outcome : Array (Option Value)} {oc_law_outcome kV_law_outcome dc_law_outcome pm_law_outcome cd_law_outcome ct_law_outcome : Value}
    {x_law_cases : Addr} {od_law_cases an_law_cases : Option Addr} {sl_law_cases : Array (Option Value)} {oc_law_cases kV_law_cases dc_law_cases pm_law_cases cd_law_cases ct_law_cases : Value}
    {x_law_great : Addr} {od_law_great an_law_great : Option Addr} {sl_law_great : Array (Option Value)} {oc_law_great kV_law_great dc_law_great pm_law_great cd_law_great ct_law_great : Value}
    {x_law_wide : Addr} {od_law_wide an_law_wide : Option Addr} {sl_law_wide : Array (Option Value)} {oc_law_wide kV_law_wide dc_law_wide pm_law_wide cd_law_wide ct_law_wide : Value}
    {x_law_weighs : Addr} {od_law_weighs an_law_weighs : Option Addr} {sl_law_weighs : Array (Option Value)} {oc_law_weighs kV_law_weighs dc_law_weighs pm_law_weighs cd_law_weighs ct_law_weighs : Value}
    {x_law : Addr} {od_law an_law : Option Addr} {sl_law : Array (Option Value)} {oc_law kV_law dc_law pm_law cd_law ct_law : Value}
    {t_MOST_JOINED : Tok}
    {t_MOST_CASES : Tok}
    {t_MOST_WEIGHT : Tok}
    {t_MOST_VARIABLES : Tok}
    {t_GREATEST : Tok}
    (a_Elimination : PySem.W.nsIn K mainGlobals "Elimination" = some (some (.ref x_Elimination))) (pg_Elimination : PySem.W.plainGet K x_Elimination Str.empty = true) (hd_Elimination : PySem.W.hasDictIn K x_Elimination = true) (po_Elimination : PySem.W.plainOver K x_Elimination = true) (sa_Elimination : PySem.W.findIn K (.ref x_Elimination) "__setattr__" = some (some (.builtin "object.__setattr__"))) (mk_Elimination : PySem.W.makesIn K x_Elimination = true) (kc_Elimination : PySem.W.keepIn K (.ref x_Elimination) = true) (n_Elimination_system : PySem.W.findIn K (.ref x_Elimination) "system" = some none) (n_Elimination_k : PySem.W.findIn K (.ref x_Elimination) "k" = some none) (n_Elimination_others : PySem.W.findIn K (.ref x_Elimination) "others" = some none) (n_Elimination_lowers : PySem.W.findIn K (.ref x_Elimination) "lowers" = some none) (n_Elimination_uppers : PySem.W.findIn K (.ref x_Elimination) "uppers" = some none) (n_Elimination_period : PySem.W.findIn K (.ref x_Elimination) "period" = some none) (n_Elimination_rule : PySem.W.findIn K (.ref x_Elimination) "rule" = some none) (n_Elimination_pivots : PySem.W.findIn K (.ref x_Elimination) "pivots" = some none)
    (a_System : PySem.W.nsIn K mainGlobals "System" = some (some (.ref x_System))) (pg_System : PySem.W.plainGet K x_System Str.empty = true) (hd_System : PySem.W.hasDictIn K x_System = true) (po_System : PySem.W.plainOver K x_System = true) (sa_System : PySem.W.findIn K (.ref x_System) "__setattr__" = some (some (.builtin "object.__setattr__"))) (mk_System : PySem.W.makesIn K x_System = true) (kc_System : PySem.W.keepIn K (.ref x_System) = true) (n_System_variables : PySem.W.findIn K (.ref x_System) "variables" = some none) (n_System_rows : PySem.W.findIn K (.ref x_System) "rows" = some none)
    (q1_System : PySem.W.findIn K (.ref x_System) "__class__" = some (some (.builtin "object.__class__"))) (q2_System : PySem.W.specialIn K (.builtin "object.__class__") "__get__" = some (some (.builtin "getset_descriptor.__get__"))) (q3_System : PySem.W.takesIn K (.builtin "object.__class__") = some true) (q4_System : PySem.W.mroIn K x_System (.type "object") = some true)
    (a_is_integer : PySem.W.nsIn K mainGlobals "is_integer" = some (some (.ref x_is_integer))) (l_is_integer : K.lookup x_is_integer = some ⟨oc_is_integer, od_is_integer, .func (PySem.W.fnOf "is_integer" "is_integer" (defArgs s_is_integer) (defBody s_is_integer) (defScope s_is_integer) .none kV_is_integer dc_is_integer pm_is_integer an_is_integer cd_is_integer ct_is_integer), sl_is_integer⟩) (c_is_integer : PySem.W.codeIn K cd_is_integer "is_integer" = true) (k_is_integer : PySem.W.keepIn K (.ref x_is_integer) = true)
    (a_is_tuple_of_integers : PySem.W.nsIn K mainGlobals "is_tuple_of_integers" = some (some (.ref x_is_tuple_of_integers))) (l_is_tuple_of_integers : K.lookup x_is_tuple_of_integers = some ⟨oc_is_tuple_of_integers, od_is_tuple_of_integers, .func (PySem.W.fnOf "is_tuple_of_integers" "is_tuple_of_integers" (defArgs s_is_tuple_of_integers) (defBody s_is_tuple_of_integers) (defScope s_is_tuple_of_integers) .none kV_is_tuple_of_integers dc_is_tuple_of_integers pm_is_tuple_of_integers an_is_tuple_of_integers cd_is_tuple_of_integers ct_is_tuple_of_integers), sl_is_tuple_of_integers⟩) (c_is_tuple_of_integers : PySem.W.codeIn K cd_is_tuple_of_integers "is_tuple_of_integers" = true) (k_is_tuple_of_integers : PySem.W.keepIn K (.ref x_is_tuple_of_integers) = true)
    (a_is_constraint : PySem.W.nsIn K mainGlobals "is_constraint" = some (some (.ref x_is_constraint))) (l_is_constraint : K.lookup x_is_constraint = some ⟨oc_is_constraint, od_is_constraint, .func (PySem.W.fnOf "is_constraint" "is_constraint" (defArgs s_is_constraint) (defBody s_is_constraint) (defScope s_is_constraint) .none kV_is_constraint dc_is_constraint pm_is_constraint an_is_constraint cd_is_constraint ct_is_constraint), sl_is_constraint⟩) (c_is_constraint : PySem.W.codeIn K cd_is_constraint "is_constraint" = true) (k_is_constraint : PySem.W.keepIn K (.ref x_is_constraint) = true)
    (a_impossible : PySem.W.nsIn K mainGlobals "impossible" = some (some (.ref x_impossible))) (l_impossible : K.lookup x_impossible = some ⟨oc_impossible, od_impossible, .func (PySem.W.fnOf "impossible" "impossible" (defArgs s_impossible) (defBody s_impossible) (defScope s_impossible) .none kV_impossible dc_impossible pm_impossible an_impossible cd_impossible ct_impossible), sl_impossible⟩) (c_impossible : PySem.W.codeIn K cd_impossible "impossible" = true) (k_impossible : PySem.W.keepIn K (.ref x_impossible) = true)
    (a_common_divisor : PySem.W.nsIn K mainGlobals "common_divisor" = some (some (.ref x_common_divisor))) (l_common_divisor : K.lookup x_common_divisor = some ⟨oc_common_divisor, od_common_divisor, .func (PySem.W.fnOf "common_divisor" "common_divisor" (defArgs s_common_divisor) (defBody s_common_divisor) (defScope s_common_divisor) .none kV_common_divisor dc_common_divisor pm_common_divisor an_common_divisor cd_common_divisor ct_common_divisor), sl_common_divisor⟩) (c_common_divisor : PySem.W.codeIn K cd_common_divisor "common_divisor" = true) (k_common_divisor : PySem.W.keepIn K (.ref x_common_divisor) = true)
    (a_divided : PySem.W.nsIn K mainGlobals "divided" = some (some (.ref x_divided))) (l_divided : K.lookup x_divided = some ⟨oc_divided, od_divided, .func (PySem.W.fnOf "divided" "divided" (defArgs s_divided) (defBody s_divided) (defScope s_divided) .none kV_divided dc_divided pm_divided an_divided cd_divided ct_divided), sl_divided⟩) (c_divided : PySem.W.codeIn K cd_divided "divided" = true) (k_divided : PySem.W.keepIn K (.ref x_divided) = true)
    (a_reduced_inequality : PySem.W.nsIn K mainGlobals "reduced_inequality" = some (some (.ref x_reduced_inequality))) (l_reduced_inequality : K.lookup x_reduced_inequality = some ⟨oc_reduced_inequality, od_reduced_inequality, .func (PySem.W.fnOf "reduced_inequality" "reduced_inequality" (defArgs s_reduced_inequality) (defBody s_reduced_inequality) (defScope s_reduced_inequality) .none kV_reduced_inequality dc_reduced_inequality pm_reduced_inequality an_reduced_inequality cd_reduced_inequality ct_reduced_inequality), sl_reduced_inequality⟩) (c_reduced_inequality : PySem.W.codeIn K cd_reduced_inequality "reduced_inequality" = true) (k_reduced_inequality : PySem.W.keepIn K (.ref x_reduced_inequality) = true)
    (a_reduced_equation : PySem.W.nsIn K mainGlobals "reduced_equation" = some (some (.ref x_reduced_equation))) (l_reduced_equation : K.lookup x_reduced_equation = some ⟨oc_reduced_equation, od_reduced_equation, .func (PySem.W.fnOf "reduced_equation" "reduced_equation" (defArgs s_reduced_equation) (defBody s_reduced_equation) (defScope s_reduced_equation) .none kV_reduced_equation dc_reduced_equation pm_reduced_equation an_reduced_equation cd_reduced_equation ct_reduced_equation), sl_reduced_equation⟩) (c_reduced_equation : PySem.W.codeIn K cd_reduced_equation "reduced_equation" = true) (k_reduced_equation : PySem.W.keepIn K (.ref x_reduced_equation) = true)
    (a_reduced_multiple : PySem.W.nsIn K mainGlobals "reduced_multiple" = some (some (.ref x_reduced_multiple))) (l_reduced_multiple : K.lookup x_reduced_multiple = some ⟨oc_reduced_multiple, od_reduced_multiple, .func (PySem.W.fnOf "reduced_multiple" "reduced_multiple" (defArgs s_reduced_multiple) (defBody s_reduced_multiple) (defScope s_reduced_multiple) .none kV_reduced_multiple dc_reduced_multiple pm_reduced_multiple an_reduced_multiple cd_reduced_multiple ct_reduced_multiple), sl_reduced_multiple⟩) (c_reduced_multiple : PySem.W.codeIn K cd_reduced_multiple "reduced_multiple" = true) (k_reduced_multiple : PySem.W.keepIn K (.ref x_reduced_multiple) = true)
    (a_reduced_constraint : PySem.W.nsIn K mainGlobals "reduced_constraint" = some (some (.ref x_reduced_constraint))) (l_reduced_constraint : K.lookup x_reduced_constraint = some ⟨oc_reduced_constraint, od_reduced_constraint, .func (PySem.W.fnOf "reduced_constraint" "reduced_constraint" (defArgs s_reduced_constraint) (defBody s_reduced_constraint) (defScope s_reduced_constraint) .none kV_reduced_constraint dc_reduced_constraint pm_reduced_constraint an_reduced_constraint cd_reduced_constraint ct_reduced_constraint), sl_reduced_constraint⟩) (c_reduced_constraint : PySem.W.codeIn K cd_reduced_constraint "reduced_constraint" = true) (k_reduced_constraint : PySem.W.keepIn K (.ref x_reduced_constraint) = true)
    (a_reduced_rows : PySem.W.nsIn K mainGlobals "reduced_rows" = some (some (.ref x_reduced_rows))) (l_reduced_rows : K.lookup x_reduced_rows = some ⟨oc_reduced_rows, od_reduced_rows, .func (PySem.W.fnOf "reduced_rows" "reduced_rows" (defArgs s_reduced_rows) (defBody s_reduced_rows) (defScope s_reduced_rows) .none kV_reduced_rows dc_reduced_rows pm_reduced_rows an_reduced_rows cd_reduced_rows ct_reduced_rows), sl_reduced_rows⟩) (c_reduced_rows : PySem.W.codeIn K cd_reduced_rows "reduced_rows" = true) (k_reduced_rows : PySem.W.keepIn K (.ref x_reduced_rows) = true)
    (a_System___init__ : PySem.W.findIn K (.ref x_System) "__init__" = some (some (.ref x_System___init__))) (i_System___init__ : PySem.W.isFn K (.ref x_System___init__) = true)
    (l_System___init__ : K.lookup x_System___init__ = some ⟨oc_System___init__, od_System___init__, .func (PySem.W.fnOf "__init__" "System.__init__" (defArgs s_System___init__) (defBody s_System___init__) (defScope s_System___init__) .none kV_System___init__ dc_System___init__ pm_System___init__ an_System___init__ cd_System___init__ ct_System___init__), sl_System___init__⟩) (c_System___init__ : PySem.W.codeIn K cd_System___init__ "System.__init__" = true) (k_System___init__ : PySem.W.keepIn K (.ref x_System___init__) = true)
    (a_System_is_impossible : PySem.W.findIn K (.ref x_System) "is_impossible" = some (some (.ref y_System_is_impossible))) (g_System_is_impossible : PySem.W.specialIn K (.ref y_System_is_impossible) "__get__" = some (some (.builtin "property.__get__"))) (t_System_is_impossible : PySem.W.takesIn K (.ref y_System_is_impossible) = some true) (r_System_is_impossible : PySem.W.recIn K y_System_is_impossible "property" = some (.ref x_System_is_impossible :: rs_System_is_impossible))
    (l_System_is_impossible : K.lookup x_System_is_impossible = some ⟨oc_System_is_impossible, od_System_is_impossible, .func (PySem.W.fnOf "is_impossible" "System.is_impossible" (defArgs s_System_is_impossible) (defBody s_System_is_impossible) (defScope s_System_is_impossible) .none kV_System_is_impossible dc_System_is_impossible pm_System_is_impossible an_System_is_impossible cd_System_is_impossible ct_System_is_impossible), sl_System_is_impossible⟩) (c_System_is_impossible : PySem.W.codeIn K cd_System_is_impossible "System.is_impossible" = true) (k_System_is_impossible : PySem.W.keepIn K (.ref x_System_is_impossible) = true)
    (a_System_reduced : PySem.W.findIn K (.ref x_System) "reduced" = some (some (.ref x_System_reduced))) (i_System_reduced : PySem.W.isFn K (.ref x_System_reduced) = true)
    (l_System_reduced : K.lookup x_System_reduced = some ⟨oc_System_reduced, od_System_reduced, .func (PySem.W.fnOf "reduced" "System.reduced" (defArgs s_System_reduced) (defBody s_System_reduced) (defScope s_System_reduced) .none kV_System_reduced dc_System_reduced pm_System_reduced an_System_reduced cd_System_reduced ct_System_reduced), sl_System_reduced⟩) (c_System_reduced : PySem.W.codeIn K cd_System_reduced "System.reduced" = true) (k_System_reduced : PySem.W.keepIn K (.ref x_System_reduced) = true)
    (a_System___add__ : PySem.W.findIn K (.ref x_System) "__add__" = some (some (.ref x_System___add__))) (i_System___add__ : PySem.W.isFn K (.ref x_System___add__) = true)
    (l_System___add__ : K.lookup x_System___add__ = some ⟨oc_System___add__, od_System___add__, .func (PySem.W.fnOf "__add__" "System.__add__" (defArgs s_System___add__) (defBody s_System___add__) (defScope s_System___add__) .none kV_System___add__ dc_System___add__ pm_System___add__ an_System___add__ cd_System___add__ ct_System___add__), sl_System___add__⟩) (c_System___add__ : PySem.W.codeIn K cd_System___add__ "System.__add__" = true) (k_System___add__ : PySem.W.keepIn K (.ref x_System___add__) = true)
    (a_System___eq__ : PySem.W.findIn K (.ref x_System) "__eq__" = some (some (.ref x_System___eq__))) (i_System___eq__ : PySem.W.isFn K (.ref x_System___eq__) = true)
    (l_System___eq__ : K.lookup x_System___eq__ = some ⟨oc_System___eq__, od_System___eq__, .func (PySem.W.fnOf "__eq__" "System.__eq__" (defArgs s_System___eq__) (defBody s_System___eq__) (defScope s_System___eq__) .none kV_System___eq__ dc_System___eq__ pm_System___eq__ an_System___eq__ cd_System___eq__ ct_System___eq__), sl_System___eq__⟩) (c_System___eq__ : PySem.W.codeIn K cd_System___eq__ "System.__eq__" = true) (k_System___eq__ : PySem.W.keepIn K (.ref x_System___eq__) = true)
    (a_System_weight : PySem.W.findIn K (.ref x_System) "weight" = some (some (.ref y_System_weight))) (g_System_weight : PySem.W.specialIn K (.ref y_System_weight) "__get__" = some (some (.builtin "property.__get__"))) (t_System_weight : PySem.W.takesIn K (.ref y_System_weight) = some true) (r_System_weight : PySem.W.recIn K y_System_weight "property" = some (.ref x_System_weight :: rs_System_weight))
    (l_System_weight : K.lookup x_System_weight = some ⟨oc_System_weight, od_System_weight, .func (PySem.W.fnOf "weight" "System.weight" (defArgs s_System_weight) (defBody s_System_weight) (defScope s_System_weight) .none kV_System_weight dc_System_weight pm_System_weight an_System_weight cd_System_weight ct_System_weight), sl_System_weight⟩) (c_System_weight : PySem.W.codeIn K cd_System_weight "System.weight" = true) (k_System_weight : PySem.W.keepIn K (.ref x_System_weight) = true)
    (a_add : PySem.W.nsIn K mainGlobals "add" = some (some (.ref x_add))) (l_add : K.lookup x_add = some ⟨oc_add, od_add, .func (PySem.W.fnOf "add" "add" (defArgs s_add) (defBody s_add) (defScope s_add) .none kV_add dc_add pm_add an_add cd_add ct_add), sl_add⟩) (c_add : PySem.W.codeIn K cd_add "add" = true) (k_add : PySem.W.keepIn K (.ref x_add) = true)
    (a_multiply : PySem.W.nsIn K mainGlobals "multiply" = some (some (.ref x_multiply))) (l_multiply : K.lookup x_multiply = some ⟨oc_multiply, od_multiply, .func (PySem.W.fnOf "multiply" "multiply" (defArgs s_multiply) (defBody s_multiply) (defScope s_multiply) .none kV_multiply dc_multiply pm_multiply an_multiply cd_multiply ct_multiply), sl_multiply⟩) (c_multiply : PySem.W.codeIn K cd_multiply "multiply" = true) (k_multiply : PySem.W.keepIn K (.ref x_multiply) = true)
    (a_difference : PySem.W.nsIn K mainGlobals "difference" = some (some (.ref x_difference))) (l_difference : K.lookup x_difference = some ⟨oc_difference, od_difference, .func (PySem.W.fnOf "difference" "difference" (defArgs s_difference) (defBody s_difference) (defScope s_difference) .none kV_difference dc_difference pm_difference an_difference cd_difference ct_difference), sl_difference⟩) (c_difference : PySem.W.codeIn K cd_difference "difference" = true) (k_difference : PySem.W.keepIn K (.ref x_difference) = true)
    (a_with_constant_added : PySem.W.nsIn K mainGlobals "with_constant_added" = some (some (.ref x_with_constant_added))) (l_with_constant_added : K.lookup x_with_constant_added = some ⟨oc_with_constant_added, od_with_constant_added, .func (PySem.W.fnOf "with_constant_added" "with_constant_added" (defArgs s_with_constant_added) (defBody s_with_constant_added) (defScope s_with_constant_added) .none kV_with_constant_added dc_with_constant_added pm_with_constant_added an_with_constant_added cd_with_constant_added ct_with_constant_added), sl_with_constant_added⟩) (c_with_constant_added : PySem.W.codeIn K cd_with_constant_added "with_constant_added" = true) (k_with_constant_added : PySem.W.keepIn K (.ref x_with_constant_added) = true)
    (a_without : PySem.W.nsIn K mainGlobals "without" = some (some (.ref x_without))) (l_without : K.lookup x_without = some ⟨oc_without, od_without, .func (PySem.W.fnOf "without" "without" (defArgs s_without) (defBody s_without) (defScope s_without) .none kV_without dc_without pm_without an_without cd_without ct_without), sl_without⟩) (c_without : PySem.W.codeIn K cd_without "without" = true) (k_without : PySem.W.keepIn K (.ref x_without) = true)
    (a_changed : PySem.W.nsIn K mainGlobals "changed" = some (some (.ref x_changed))) (l_changed : K.lookup x_changed = some ⟨oc_changed, od_changed, .func (PySem.W.fnOf "changed" "changed" (defArgs s_changed) (defBody s_changed) (defScope s_changed) .none kV_changed dc_changed pm_changed an_changed cd_changed ct_changed), sl_changed⟩) (c_changed : PySem.W.codeIn K cd_changed "changed" = true) (k_changed : PySem.W.keepIn K (.ref x_changed) = true)
    (a_common_multiple : PySem.W.nsIn K mainGlobals "common_multiple" = some (some (.ref x_common_multiple))) (l_common_multiple : K.lookup x_common_multiple = some ⟨oc_common_multiple, od_common_multiple, .func (PySem.W.fnOf "common_multiple" "common_multiple" (defArgs s_common_multiple) (defBody s_common_multiple) (defScope s_common_multiple) .none kV_common_multiple dc_common_multiple pm_common_multiple an_common_multiple cd_common_multiple ct_common_multiple), sl_common_multiple⟩) (c_common_multiple : PySem.W.codeIn K cd_common_multiple "common_multiple" = true) (k_common_multiple : PySem.W.keepIn K (.ref x_common_multiple) = true)
    (a_Elimination_rule_for : PySem.W.findIn K (.ref x_Elimination) "rule_for" = some (some (.ref x_Elimination_rule_for))) (i_Elimination_rule_for : PySem.W.isFn K (.ref x_Elimination_rule_for) = true)
    (l_Elimination_rule_for : K.lookup x_Elimination_rule_for = some ⟨oc_Elimination_rule_for, od_Elimination_rule_for, .func (PySem.W.fnOf "rule_for" "Elimination.rule_for" (defArgs s_Elimination_rule_for) (defBody s_Elimination_rule_for) (defScope s_Elimination_rule_for) .none kV_Elimination_rule_for dc_Elimination_rule_for pm_Elimination_rule_for an_Elimination_rule_for cd_Elimination_rule_for ct_Elimination_rule_for), sl_Elimination_rule_for⟩) (c_Elimination_rule_for : PySem.W.codeIn K cd_Elimination_rule_for "Elimination.rule_for" = true) (k_Elimination_rule_for : PySem.W.keepIn K (.ref x_Elimination_rule_for) = true)
    (a_Elimination_pivots_for : PySem.W.findIn K (.ref x_Elimination) "pivots_for" = some (some (.ref x_Elimination_pivots_for))) (i_Elimination_pivots_for : PySem.W.isFn K (.ref x_Elimination_pivots_for) = true)
    (l_Elimination_pivots_for : K.lookup x_Elimination_pivots_for = some ⟨oc_Elimination_pivots_for, od_Elimination_pivots_for, .func (PySem.W.fnOf "pivots_for" "Elimination.pivots_for" (defArgs s_Elimination_pivots_for) (defBody s_Elimination_pivots_for) (defScope s_Elimination_pivots_for) .none kV_Elimination_pivots_for dc_Elimination_pivots_for pm_Elimination_pivots_for an_Elimination_pivots_for cd_Elimination_pivots_for ct_Elimination_pivots_for), sl_Elimination_pivots_for⟩) (c_Elimination_pivots_for : PySem.W.codeIn K cd_Elimination_pivots_for "Elimination.pivots_for" = true) (k_Elimination_pivots_for : PySem.W.keepIn K (.ref x_Elimination_pivots_for) = true)
    (a_Elimination___init__ : PySem.W.findIn K (.ref x_Elimination) "__init__" = some (some (.ref x_Elimination___init__))) (i_Elimination___init__ : PySem.W.isFn K (.ref x_Elimination___init__) = true)
    (l_Elimination___init__ : K.lookup x_Elimination___init__ = some ⟨oc_Elimination___init__, od_Elimination___init__, .func (PySem.W.fnOf "__init__" "Elimination.__init__" (defArgs s_Elimination___init__) (defBody s_Elimination___init__) (defScope s_Elimination___init__) .none kV_Elimination___init__ dc_Elimination___init__ pm_Elimination___init__ an_Elimination___init__ cd_Elimination___init__ ct_Elimination___init__), sl_Elimination___init__⟩) (c_Elimination___init__ : PySem.W.codeIn K cd_Elimination___init__ "Elimination.__init__" = true) (k_Elimination___init__ : PySem.W.keepIn K (.ref x_Elimination___init__) = true)
    (a_Elimination_count_cases : PySem.W.findIn K (.ref x_Elimination) "count_cases" = some (some (.ref x_Elimination_count_cases))) (i_Elimination_count_cases : PySem.W.isFn K (.ref x_Elimination_count_cases) = true)
    (l_Elimination_count_cases : K.lookup x_Elimination_count_cases = some ⟨oc_Elimination_count_cases, od_Elimination_count_cases, .func (PySem.W.fnOf "count_cases" "Elimination.count_cases" (defArgs s_Elimination_count_cases) (defBody s_Elimination_count_cases) (defScope s_Elimination_count_cases) .none kV_Elimination_count_cases dc_Elimination_count_cases pm_Elimination_count_cases an_Elimination_count_cases cd_Elimination_count_cases ct_Elimination_count_cases), sl_Elimination_count_cases⟩) (c_Elimination_count_cases : PySem.W.codeIn K cd_Elimination_count_cases "Elimination.count_cases" = true) (k_Elimination_count_cases : PySem.W.keepIn K (.ref x_Elimination_count_cases) = true)
    (a_Elimination_count_joined : PySem.W.findIn K (.ref x_Elimination) "count_joined" = some (some (.ref x_Elimination_count_joined))) (i_Elimination_count_joined : PySem.W.isFn K (.ref x_Elimination_count_joined) = true)
    (l_Elimination_count_joined : K.lookup x_Elimination_count_joined = some ⟨oc_Elimination_count_joined, od_Elimination_count_joined, .func (PySem.W.fnOf "count_joined" "Elimination.count_joined" (defArgs s_Elimination_count_joined) (defBody s_Elimination_count_joined) (defScope s_Elimination_count_joined) .none kV_Elimination_count_joined dc_Elimination_count_joined pm_Elimination_count_joined an_Elimination_count_joined cd_Elimination_count_joined ct_Elimination_count_joined), sl_Elimination_count_joined⟩) (c_Elimination_count_joined : PySem.W.codeIn K cd_Elimination_count_joined "Elimination.count_joined" = true) (k_Elimination_count_joined : PySem.W.keepIn K (.ref x_Elimination_count_joined) = true)
    (a_Elimination_joined_rows : PySem.W.findIn K (.ref x_Elimination) "joined_rows" = some (some (.ref x_Elimination_joined_rows))) (i_Elimination_joined_rows : PySem.W.isFn K (.ref x_Elimination_joined_rows) = true)
    (l_Elimination_joined_rows : K.lookup x_Elimination_joined_rows = some ⟨oc_Elimination_joined_rows, od_Elimination_joined_rows, .func (PySem.W.fnOf "joined_rows" "Elimination.joined_rows" (defArgs s_Elimination_joined_rows) (defBody s_Elimination_joined_rows) (defScope s_Elimination_joined_rows) .none kV_Elimination_joined_rows dc_Elimination_joined_rows pm_Elimination_joined_rows an_Elimination_joined_rows cd_Elimination_joined_rows ct_Elimination_joined_rows), sl_Elimination_joined_rows⟩) (c_Elimination_joined_rows : PySem.W.codeIn K cd_Elimination_joined_rows "Elimination.joined_rows" = true) (k_Elimination_joined_rows : PySem.W.keepIn K (.ref x_Elimination_joined_rows) = true)
    (a_Elimination_put_in : PySem.W.findIn K (.ref x_Elimination) "put_in" = some (some (.ref x_Elimination_put_in))) (i_Elimination_put_in : PySem.W.isFn K (.ref x_Elimination_put_in) = true)
    (l_Elimination_put_in : K.lookup x_Elimination_put_in = some ⟨oc_Elimination_put_in, od_Elimination_put_in, .func (PySem.W.fnOf "put_in" "Elimination.put_in" (defArgs s_Elimination_put_in) (defBody s_Elimination_put_in) (defScope s_Elimination_put_in) .none kV_Elimination_put_in dc_Elimination_put_in pm_Elimination_put_in an_Elimination_put_in cd_Elimination_put_in ct_Elimination_put_in), sl_Elimination_put_in⟩) (c_Elimination_put_in : PySem.W.codeIn K cd_Elimination_put_in "Elimination.put_in" = true) (k_Elimination_put_in : PySem.W.keepIn K (.ref x_Elimination_put_in) = true)
    (a_Elimination_equation_at : PySem.W.findIn K (.ref x_Elimination) "equation_at" = some (some (.ref x_Elimination_equation_at))) (i_Elimination_equation_at : PySem.W.isFn K (.ref x_Elimination_equation_at) = true)
    (l_Elimination_equation_at : K.lookup x_Elimination_equation_at = some ⟨oc_Elimination_equation_at, od_Elimination_equation_at, .func (PySem.W.fnOf "equation_at" "Elimination.equation_at" (defArgs s_Elimination_equation_at) (defBody s_Elimination_equation_at) (defScope s_Elimination_equation_at) .none kV_Elimination_equation_at dc_Elimination_equation_at pm_Elimination_equation_at an_Elimination_equation_at cd_Elimination_equation_at ct_Elimination_equation_at), sl_Elimination_equation_at⟩) (c_Elimination_equation_at : PySem.W.codeIn K cd_Elimination_equation_at "Elimination.equation_at" = true) (k_Elimination_equation_at : PySem.W.keepIn K (.ref x_Elimination_equation_at) = true)
    (a_Elimination_solved_rows : PySem.W.findIn K (.ref x_Elimination) "solved_rows" = some (some (.ref x_Elimination_solved_rows))) (i_Elimination_solved_rows : PySem.W.isFn K (.ref x_Elimination_solved_rows) = true)
    (l_Elimination_solved_rows : K.lookup x_Elimination_solved_rows = some ⟨oc_Elimination_solved_rows, od_Elimination_solved_rows, .func (PySem.W.fnOf "solved_rows" "Elimination.solved_rows" (defArgs s_Elimination_solved_rows) (defBody s_Elimination_solved_rows) (defScope s_Elimination_solved_rows) .none kV_Elimination_solved_rows dc_Elimination_solved_rows pm_Elimination_solved_rows an_Elimination_solved_rows cd_Elimination_solved_rows ct_Elimination_solved_rows), sl_Elimination_solved_rows⟩) (c_Elimination_solved_rows : PySem.W.codeIn K cd_Elimination_solved_rows "Elimination.solved_rows" = true) (k_Elimination_solved_rows : PySem.W.keepIn K (.ref x_Elimination_solved_rows) = true)
    (a_Elimination_case_at : PySem.W.findIn K (.ref x_Elimination) "case_at" = some (some (.ref x_Elimination_case_at))) (i_Elimination_case_at : PySem.W.isFn K (.ref x_Elimination_case_at) = true)
    (l_Elimination_case_at : K.lookup x_Elimination_case_at = some ⟨oc_Elimination_case_at, od_Elimination_case_at, .func (PySem.W.fnOf "case_at" "Elimination.case_at" (defArgs s_Elimination_case_at) (defBody s_Elimination_case_at) (defScope s_Elimination_case_at) .none kV_Elimination_case_at dc_Elimination_case_at pm_Elimination_case_at an_Elimination_case_at cd_Elimination_case_at ct_Elimination_case_at), sl_Elimination_case_at⟩) (c_Elimination_case_at : PySem.W.codeIn K cd_Elimination_case_at "Elimination.case_at" = true) (k_Elimination_case_at : PySem.W.keepIn K (.ref x_Elimination_case_at) = true)
    (a_cases : PySem.W.nsIn K mainGlobals "cases" = some (some (.ref x_cases))) (l_cases : K.lookup x_cases = some ⟨oc_cases, od_cases, .func (PySem.W.fnOf "cases" "cases" (defArgs s_cases) (defBody s_cases) (defScope s_cases) .none kV_cases dc_cases pm_cases an_cases cd_cases ct_cases), sl_cases⟩) (c_cases : PySem.W.codeIn K cd_cases "cases" = true) (k_cases : PySem.W.keepIn K (.ref x_cases) = true)
    (a_case_count : PySem.W.nsIn K mainGlobals "case_count" = some (some (.ref x_case_count))) (l_case_count : K.lookup x_case_count = some ⟨oc_case_count, od_case_count, .func (PySem.W.fnOf "case_count" "case_count" (defArgs s_case_count) (defBody s_case_count) (defScope s_case_count) .none kV_case_count dc_case_count pm_case_count an_case_count cd_case_count ct_case_count), sl_case_count⟩) (c_case_count : PySem.W.codeIn K cd_case_count "case_count" = true) (k_case_count : PySem.W.keepIn K (.ref x_case_count) = true)
    (a_is_multiplier : PySem.W.nsIn K mainGlobals "is_multiplier" = some (some (.ref x_is_multiplier))) (l_is_multiplier : K.lookup x_is_multiplier = some ⟨oc_is_multiplier, od_is_multiplier, .func (PySem.W.fnOf "is_multiplier" "is_multiplier" (defArgs s_is_multiplier) (defBody s_is_multiplier) (defScope s_is_multiplier) .none kV_is_multiplier dc_is_multiplier pm_is_multiplier an_is_multiplier cd_is_multiplier ct_is_multiplier), sl_is_multiplier⟩) (c_is_multiplier : PySem.W.codeIn K cd_is_multiplier "is_multiplier" = true) (k_is_multiplier : PySem.W.keepIn K (.ref x_is_multiplier) = true)
    (a_are_multipliers : PySem.W.nsIn K mainGlobals "are_multipliers" = some (some (.ref x_are_multipliers))) (l_are_multipliers : K.lookup x_are_multipliers = some ⟨oc_are_multipliers, od_are_multipliers, .func (PySem.W.fnOf "are_multipliers" "are_multipliers" (defArgs s_are_multipliers) (defBody s_are_multipliers) (defScope s_are_multipliers) .none kV_are_multipliers dc_are_multipliers pm_are_multipliers an_are_multipliers cd_are_multipliers ct_are_multipliers), sl_are_multipliers⟩) (c_are_multipliers : PySem.W.codeIn K cd_are_multipliers "are_multipliers" = true) (k_are_multipliers : PySem.W.keepIn K (.ref x_are_multipliers) = true)
    (a_added : PySem.W.nsIn K mainGlobals "added" = some (some (.ref x_added))) (l_added : K.lookup x_added = some ⟨oc_added, od_added, .func (PySem.W.fnOf "added" "added" (defArgs s_added) (defBody s_added) (defScope s_added) .none kV_added dc_added pm_added an_added cd_added ct_added), sl_added⟩) (c_added : PySem.W.codeIn K cd_added "added" = true) (k_added : PySem.W.keepIn K (.ref x_added) = true)
    (a_split_by : PySem.W.nsIn K mainGlobals "split_by" = some (some (.ref x_split_by))) (l_split_by : K.lookup x_split_by = some ⟨oc_split_by, od_split_by, .func (PySem.W.fnOf "split_by" "split_by" (defArgs s_split_by) (defBody s_split_by) (defScope s_split_by) .none kV_split_by dc_split_by pm_split_by an_split_by cd_split_by ct_split_by), sl_split_by⟩) (c_split_by : PySem.W.codeIn K cd_split_by "split_by" = true) (k_split_by : PySem.W.keepIn K (.ref x_split_by) = true)
    (a_closed : PySem.W.nsIn K mainGlobals "closed" = some (some (.ref x_closed))) (l_closed : K.lookup x_closed = some ⟨oc_closed, od_closed, .func (PySem.W.fnOf "closed" "closed" (defArgs s_closed) (defBody s_closed) (defScope s_closed) .none kV_closed dc_closed pm_closed an_closed cd_closed ct_closed), sl_closed⟩) (c_closed : PySem.W.codeIn K cd_closed "closed" = true) (k_closed : PySem.W.keepIn K (.ref x_closed) = true)
    (a_check_case_counts : PySem.W.nsIn K mainGlobals "check_case_counts" = some (some (.ref x_check_case_counts))) (l_check_case_counts : K.lookup x_check_case_counts = some ⟨oc_check_case_counts, od_check_case_counts, .func (PySem.W.fnOf "check_case_counts" "check_case_counts" (defArgs s_check_case_counts) (defBody s_check_case_counts) (defScope s_check_case_counts) .none kV_check_case_counts dc_check_case_counts pm_check_case_counts an_check_case_counts cd_check_case_counts ct_check_case_counts), sl_check_case_counts⟩) (c_check_case_counts : PySem.W.codeIn K cd_check_case_counts "check_case_counts" = true) (k_check_case_counts : PySem.W.keepIn K (.ref x_check_case_counts) = true)
    (a_split_into_cases : PySem.W.nsIn K mainGlobals "split_into_cases" = some (some (.ref x_split_into_cases))) (l_split_into_cases : K.lookup x_split_into_cases = some ⟨oc_split_into_cases, od_split_into_cases, .func (PySem.W.fnOf "split_into_cases" "split_into_cases" (defArgs s_split_into_cases) (defBody s_split_into_cases) (defScope s_split_into_cases) .none kV_split_into_cases dc_split_into_cases pm_split_into_cases an_split_into_cases cd_split_into_cases ct_split_into_cases), sl_split_into_cases⟩) (c_split_into_cases : PySem.W.codeIn K cd_split_into_cases "split_into_cases" = true) (k_split_into_cases : PySem.W.keepIn K (.ref x_split_into_cases) = true)
    (a_made_by : PySem.W.nsIn K mainGlobals "made_by" = some (some (.ref x_made_by))) (l_made_by : K.lookup x_made_by = some ⟨oc_made_by, od_made_by, .func (PySem.W.fnOf "made_by" "made_by" (defArgs s_made_by) (defBody s_made_by) (defScope s_made_by) .none kV_made_by dc_made_by pm_made_by an_made_by cd_made_by ct_made_by), sl_made_by⟩) (c_made_by : PySem.W.codeIn K cd_made_by "made_by" = true) (k_made_by : PySem.W.keepIn K (.ref x_made_by) = true)
    (a_check_left : PySem.W.nsIn K mainGlobals "check_left" = some (some (.ref x_check_left))) (l_check_left : K.lookup x_check_left = some ⟨oc_check_left, od_check_left, .func (PySem.W.fnOf "check_left" "check_left" (defArgs s_check_left) (defBody s_check_left) (defScope s_check_left) .none kV_check_left dc_check_left pm_check_left an_check_left cd_check_left ct_check_left), sl_check_left⟩) (c_check_left : PySem.W.codeIn K cd_check_left "check_left" = true) (k_check_left : PySem.W.keepIn K (.ref x_check_left) = true)
    (a_check_numbers : PySem.W.nsIn K mainGlobals "check_numbers" = some (some (.ref x_check_numbers))) (l_check_numbers : K.lookup x_check_numbers = some ⟨oc_check_numbers, od_check_numbers, .func (PySem.W.fnOf "check_numbers" "check_numbers" (defArgs s_check_numbers) (defBody s_check_numbers) (defScope s_check_numbers) .none kV_check_numbers dc_check_numbers pm_check_numbers an_check_numbers cd_check_numbers ct_check_numbers), sl_check_numbers⟩) (c_check_numbers : PySem.W.codeIn K cd_check_numbers "check_numbers" = true) (k_check_numbers : PySem.W.keepIn K (.ref x_check_numbers) = true)
    (a_left_behind : PySem.W.nsIn K mainGlobals "left_behind" = some (some (.ref x_left_behind))) (l_left_behind : K.lookup x_left_behind = some ⟨oc_left_behind, od_left_behind, .func (PySem.W.fnOf "left_behind" "left_behind" (defArgs s_left_behind) (defBody s_left_behind) (defScope s_left_behind) .none kV_left_behind dc_left_behind pm_left_behind an_left_behind cd_left_behind ct_left_behind), sl_left_behind⟩) (c_left_behind : PySem.W.codeIn K cd_left_behind "left_behind" = true) (k_left_behind : PySem.W.keepIn K (.ref x_left_behind) = true)
    (a_remaining : PySem.W.nsIn K mainGlobals "remaining" = some (some (.ref x_remaining))) (l_remaining : K.lookup x_remaining = some ⟨oc_remaining, od_remaining, .func (PySem.W.fnOf "remaining" "remaining" (defArgs s_remaining) (defBody s_remaining) (defScope s_remaining) .none kV_remaining dc_remaining pm_remaining an_remaining cd_remaining ct_remaining), sl_remaining⟩) (c_remaining : PySem.W.codeIn K cd_remaining "remaining" = true) (k_remaining : PySem.W.keepIn K (.ref x_remaining) = true)
    (a_apply_step : PySem.W.nsIn K mainGlobals "apply_step" = some (some (.ref x_apply_step))) (l_apply_step : K.lookup x_apply_step = some ⟨oc_apply_step, od_apply_step, .func (PySem.W.fnOf "apply_step" "apply_step" (defArgs s_apply_step) (defBody s_apply_step) (defScope s_apply_step) .none kV_apply_step dc_apply_step pm_apply_step an_apply_step cd_apply_step ct_apply_step), sl_apply_step⟩) (c_apply_step : PySem.W.codeIn K cd_apply_step "apply_step" = true) (k_apply_step : PySem.W.keepIn K (.ref x_apply_step) = true)
    (a_law_cell : PySem.W.nsIn K mainGlobals "_law_cell" = some (some (.ref x_law_cell))) (l_law_cell : K.lookup x_law_cell = some ⟨oc_law_cell, od_law_cell, .func (PySem.W.fnOf "_law_cell" "_law_cell" (defArgs s_law_cell) (defBody s_law_cell) (defScope s_law_cell) .none kV_law_cell dc_law_cell pm_law_cell an_law_cell cd_law_cell ct_law_cell), sl_law_cell⟩) (c_law_cell : PySem.W.codeIn K cd_law_cell "_law_cell" = true) (k_law_cell : PySem.W.keepIn K (.ref x_law_cell) = true)
    (a_law_draws : PySem.W.nsIn K mainGlobals "_law_draws" = some (some (.ref x_law_draws))) (l_law_draws : K.lookup x_law_draws = some ⟨oc_law_draws, od_law_draws, .func (PySem.W.fnOf "_law_draws" "_law_draws" (defArgs s_law_draws) (defBody s_law_draws) (defScope s_law_draws) .none kV_law_draws dc_law_draws pm_law_draws an_law_draws cd_law_draws ct_law_draws), sl_law_draws⟩) (c_law_draws : PySem.W.codeIn K cd_law_draws "_law_draws" = true) (k_law_draws : PySem.W.keepIn K (.ref x_law_draws) = true)
    (a_law_outcome : PySem.W.nsIn K mainGlobals "_law_outcome" = some (some (.ref x_law_outcome))) (l_law_outcome : K.lookup x_law_outcome = some ⟨oc_law_outcome, od_law_outcome, .func (PySem.W.fnOf "_law_outcome" "_law_outcome" (defArgs s_law_outcome) (defBody s_law_outcome) (defScope s_law_outcome) .none kV_law_outcome dc_law_outcome pm_law_outcome an_law_outcome cd_law_outcome ct_law_outcome), sl_law_outcome⟩) (c_law_outcome : PySem.W.codeIn K cd_law_outcome "_law_outcome" = true) (k_law_outcome : PySem.W.keepIn K (.ref x_law_outcome) = true)
    (a_law_cases : PySem.W.nsIn K mainGlobals "_law_cases" = some (some (.ref x_law_cases))) (l_law_cases : K.lookup x_law_cases = some ⟨oc_law_cases, od_law_cases, .func (PySem.W.fnOf "_law_cases" "_law_cases" (defArgs s_law_cases) (defBody s_law_cases) (defScope s_law_cases) .none kV_law_cases dc_law_cases pm_law_cases an_law_cases cd_law_cases ct_law_cases), sl_law_cases⟩) (c_law_cases : PySem.W.codeIn K cd_law_cases "_law_cases" = true) (k_law_cases : PySem.W.keepIn K (.ref x_law_cases) = true)
    (a_law_great : PySem.W.nsIn K mainGlobals "_law_great" = some (some (.ref x_law_great))) (l_law_great : K.lookup x_law_great = some ⟨oc_law_great, od_law_great, .func (PySem.W.fnOf "_law_great" "_law_great" (defArgs s_law_great) (defBody s_law_great) (defScope s_law_great) .none kV_law_great dc_law_great pm_law_great an_law_great cd_law_great ct_law_great), sl_law_great⟩) (c_law_great : PySem.W.codeIn K cd_law_great "_law_great" = true) (k_law_great : PySem.W.keepIn K (.ref x_law_great) = true)
    (a_law_wide : PySem.W.nsIn K mainGlobals "_law_wide" = some (some (.ref x_law_wide))) (l_law_wide : K.lookup x_law_wide = some ⟨oc_law_wide, od_law_wide, .func (PySem.W.fnOf "_law_wide" "_law_wide" (defArgs s_law_wide) (defBody s_law_wide) (defScope s_law_wide) .none kV_law_wide dc_law_wide pm_law_wide an_law_wide cd_law_wide ct_law_wide), sl_law_wide⟩) (c_law_wide : PySem.W.codeIn K cd_law_wide "_law_wide" = true) (k_law_wide : PySem.W.keepIn K (.ref x_law_wide) = true)
    (a_law_weighs : PySem.W.nsIn K mainGlobals "_law_weighs" = some (some (.ref x_law_weighs))) (l_law_weighs : K.lookup x_law_weighs = some ⟨oc_law_weighs, od_law_weighs, .func (PySem.W.fnOf "_law_weighs" "_law_weighs" (defArgs s_law_weighs) (defBody s_law_weighs) (defScope s_law_weighs) .none kV_law_weighs dc_law_weighs pm_law_weighs an_law_weighs cd_law_weighs ct_law_weighs), sl_law_weighs⟩) (c_law_weighs : PySem.W.codeIn K cd_law_weighs "_law_weighs" = true) (k_law_weighs : PySem.W.keepIn K (.ref x_law_weighs) = true)
    (a_law : PySem.W.nsIn K mainGlobals "law" = some (some (.ref x_law))) (l_law : K.lookup x_law = some ⟨oc_law, od_law, .func (PySem.W.fnOf "law" "law" (defArgs s_law) (defBody s_law) (defScope s_law) .none kV_law dc_law pm_law an_law cd_law ct_law), sl_law⟩) (c_law : PySem.W.codeIn K cd_law "law" = true) (k_law : PySem.W.keepIn K (.ref x_law) = true)
    (d1_System : PySem.W.selfFirst K x_System = true) (d2_System : PySem.W.findIn K (.ref x_System) "__radd__" = some none) (d3_System : PySem.W.findIn K (.type "tuple") "__add__" = some (some (.builtin "tuple.__add__"))) (d4_System : PySem.W.findIn K (.type "tuple") "__radd__" = some none) (d5_System : PySem.W.subIn K (.type "tuple") (.ref x_System) = some false)
    (z_isinstance : PySem.W.nsIn K mainGlobals "isinstance" = some none)
    (z_bool : PySem.W.nsIn K mainGlobals "bool" = some none)
    (z_int : PySem.W.nsIn K mainGlobals "int" = some none)
    (z_all : PySem.W.nsIn K mainGlobals "all" = some none)
    (z_len : PySem.W.nsIn K mainGlobals "len" = some none)
    (z_tuple : PySem.W.nsIn K mainGlobals "tuple" = some none)
    (z_min : PySem.W.nsIn K mainGlobals "min" = some none)
    (z_zip : PySem.W.nsIn K mainGlobals "zip" = some none)
    (z_sum : PySem.W.nsIn K mainGlobals "sum" = some none)
    (z_max : PySem.W.nsIn K mainGlobals "max" = some none)
    (z_abs : PySem.W.nsIn K mainGlobals "abs" = some none)
    (z_range : PySem.W.nsIn K mainGlobals "range" = some none)
    (z_any : PySem.W.nsIn K mainGlobals "any" = some none)
    (z_enumerate : PySem.W.nsIn K mainGlobals "enumerate" = some none)
    (u_gcd : PySem.W.nsIn K mainGlobals "gcd" = some (some (.builtin "math.gcd")))
    (u_lcm : PySem.W.nsIn K mainGlobals "lcm" = some (some (.builtin "math.lcm")))
    (m_MOST_JOINED : PySem.W.nsIn K mainGlobals "MOST_JOINED" = some (some (.int 4000 t_MOST_JOINED)))
    (m_MOST_CASES : PySem.W.nsIn K mainGlobals "MOST_CASES" = some (some (.int 200 t_MOST_CASES)))
    (m_MOST_WEIGHT : PySem.W.nsIn K mainGlobals "MOST_WEIGHT" = some (some (.int 4000 t_MOST_WEIGHT)))
    (m_MOST_VARIABLES : PySem.W.nsIn K mainGlobals "MOST_VARIABLES" = some (some (.int 40 t_MOST_VARIABLES)))
    (m_GREATEST : PySem.W.nsIn K mainGlobals "GREATEST" = some (some (.int 1000000000000000000 t_GREATEST))) :
    ∃ A : Ad, Txt K mg A ∧ A.f_law = fa ∧ (∀ (s : Shared) (v : Value), BindsTo s A.d_law ⟨[v], []⟩ [("script", v)]) := by
  have e := hfa.symm.trans (PySem.W.mg_of X G a_law)
  cases e
  have F_is_integer := fun_mk (st := s_is_integer) l_is_integer c_is_integer k_is_integer
  have B_is_integer := F_is_integer.binds (ps := ["value"]) fun _ _ _ _ _ _ us hl => match us, hl with | [_], _ => rfl
  have F_is_tuple_of_integers := fun_mk (st := s_is_tuple_of_integers) l_is_tuple_of_integers c_is_tuple_of_integers k_is_tuple_of_integers
  have B_is_tuple_of_integers := F_is_tuple_of_integers.binds (ps := ["value", "count"]) fun _ _ _ _ _ _ us hl => match us, hl with | [_, _], _ => rfl
  have F_is_constraint := fun_mk (st := s_is_constraint) l_is_constraint c_is_constraint k_is_constraint
  have B_is_constraint := F_is_constraint.binds (ps := ["row", "variables"]) fun _ _ _ _ _ _ us hl => match us, hl with | [_, _], _ => rfl
  have F_impossible := fun_mk (st := s_impossible) l_impossible c_impossible k_impossible
  have B_impossible := F_impossible.binds (ps := ["variables"]) fun _ _ _ _ _ _ us hl => match us, hl with | [_], _ => rfl
  have F_common_divisor := fun_mk (st := s_common_divisor) l_common_divisor c_common_divisor k_common_divisor
  have B_common_divisor := F_common_divisor.binds (ps := ["first", "numbers"]) fun _ _ _ _ _ _ us hl => match us, hl with | [_, _], _ => rfl
  have F_divided := fun_mk (st := s_divided) l_divided c_divided k_divided
  have B_divided := F_divided.binds (ps := ["expression", "divisor"]) fun _ _ _ _ _ _ us hl => match us, hl with | [_, _], _ => rfl
  have F_reduced_inequality := fun_mk (st := s_reduced_inequality) l_reduced_inequality c_reduced_inequality k_reduced_inequality
  have B_reduced_inequality := F_reduced_inequality.binds (ps := ["divisor", "expression"]) fun _ _ _ _ _ _ us hl => match us, hl with | [_, _], _ => rfl
  have F_reduced_equation := fun_mk (st := s_reduced_equation) l_reduced_equation c_reduced_equation k_reduced_equation
  have B_reduced_equation := F_reduced_equation.binds (ps := ["divisor", "expression"]) fun _ _ _ _ _ _ us hl => match us, hl with | [_, _], _ => rfl
  have F_reduced_multiple := fun_mk (st := s_reduced_multiple) l_reduced_multiple c_reduced_multiple k_reduced_multiple
  have B_reduced_multiple := F_reduced_multiple.binds (ps := ["m", "expression"]) fun _ _ _ _ _ _ us hl => match us, hl with | [_, _], _ => rfl
  have F_reduced_constraint := fun_mk (st := s_reduced_constraint) l_reduced_constraint c_reduced_constraint k_reduced_constraint
  have B_reduced_constraint := F_reduced_constraint.binds (ps := ["constraint"]) fun _ _ _ _ _ _ us hl => match us, hl with | [_], _ => rfl
  have F_reduced_rows := fun_mk (st := s_reduced_rows) l_reduced_rows c_reduced_rows k_reduced_rows
  have B_reduced_rows := F_reduced_rows.binds (ps := ["variables", "rows"]) fun _ _ _ _ _ _ us hl => match us, hl with | [_, _], _ => rfl
  have F_System___init__ := fun_mk (st := s_System___init__) l_System___init__ c_System___init__ k_System___init__
  have B_System___init__ := F_System___init__.binds (ps := ["self", "variables", "rows"]) fun _ _ _ _ _ _ us hl => match us, hl with | [_, _, _], _ => rfl
  have F_System_is_impossible := fun_mk (st := s_System_is_impossible) l_System_is_impossible c_System_is_impossible k_System_is_impossible
  have B_System_is_impossible := F_System_is_impossible.binds (ps := ["self"]) fun _ _ _ _ _ _ us hl => match us, hl with | [_], _ => rfl
  have F_System_reduced := fun_mk (st := s_System_reduced) l_System_reduced c_System_reduced k_System_reduced
  have B_System_reduced := F_System_reduced.binds (ps := ["self"]) fun _ _ _ _ _ _ us hl => match us, hl with | [_], _ => rfl
  have F_System___add__ := fun_mk (st := s_System___add__) l_System___add__ c_System___add__ k_System___add__
  have B_System___add__ := F_System___add__.binds (ps := ["self", "other"]) fun _ _ _ _ _ _ us hl => match us, hl with | [_, _], _ => rfl
  have F_System___eq__ := fun_mk (st := s_System___eq__) l_System___eq__ c_System___eq__ k_System___eq__
  have B_System___eq__ := F_System___eq__.binds (ps := ["self", "other"]) fun _ _ _ _ _ _ us hl => match us, hl with | [_, _], _ => rfl
  have F_System_weight := fun_mk (st := s_System_weight) l_System_weight c_System_weight k_System_weight
  have B_System_weight := F_System_weight.binds (ps := ["self"]) fun _ _ _ _ _ _ us hl => match us, hl with | [_], _ => rfl
  have F_add := fun_mk (st := s_add) l_add c_add k_add
  have B_add := F_add.binds (ps := ["one", "other"]) fun _ _ _ _ _ _ us hl => match us, hl with | [_, _], _ => rfl
  have F_multiply := fun_mk (st := s_multiply) l_multiply c_multiply k_multiply
  have B_multiply := F_multiply.binds (ps := ["factor", "expression"]) fun _ _ _ _ _ _ us hl => match us, hl with | [_, _], _ => rfl
  have F_difference := fun_mk (st := s_difference) l_difference c_difference k_difference
  have B_difference := F_difference.binds (ps := ["one", "other"]) fun _ _ _ _ _ _ us hl => match us, hl with | [_, _], _ => rfl
  have F_with_constant_added := fun_mk (st := s_with_constant_added) l_with_constant_added c_with_constant_added k_with_constant_added
  have B_with_constant_added := F_with_constant_added.binds (ps := ["expression", "number"]) fun _ _ _ _ _ _ us hl => match us, hl with | [_, _], _ => rfl
  have F_without := fun_mk (st := s_without) l_without c_without k_without
  have B_without := F_without.binds (ps := ["expression", "k"]) fun _ _ _ _ _ _ us hl => match us, hl with | [_, _], _ => rfl
  have F_changed := fun_mk (st := s_changed) l_changed c_changed k_changed
  have B_changed := F_changed.binds (ps := ["row", "expression"]) fun _ _ _ _ _ _ us hl => match us, hl with | [_, _], _ => rfl
  have F_common_multiple := fun_mk (st := s_common_multiple) l_common_multiple c_common_multiple k_common_multiple
  have B_common_multiple := F_common_multiple.binds (ps := ["numbers"]) fun _ _ _ _ _ _ us hl => match us, hl with | [_], _ => rfl
  have F_Elimination_rule_for := fun_mk (st := s_Elimination_rule_for) l_Elimination_rule_for c_Elimination_rule_for k_Elimination_rule_for
  have B_Elimination_rule_for := F_Elimination_rule_for.binds (ps := ["self", "has_equations", "has_divisors"]) fun _ _ _ _ _ _ us hl => match us, hl with | [_, _, _], _ => rfl
  have F_Elimination_pivots_for := fun_mk (st := s_Elimination_pivots_for) l_Elimination_pivots_for c_Elimination_pivots_for k_Elimination_pivots_for
  have B_Elimination_pivots_for := F_Elimination_pivots_for.binds (ps := ["self", "equations"]) fun _ _ _ _ _ _ us hl => match us, hl with | [_, _], _ => rfl
  have F_Elimination___init__ := fun_mk (st := s_Elimination___init__) l_Elimination___init__ c_Elimination___init__ k_Elimination___init__
  have B_Elimination___init__ := F_Elimination___init__.binds (ps := ["self", "system", "k"]) fun _ _ _ _ _ _ us hl => match us, hl with | [_, _, _], _ => rfl
  have F_Elimination_count_cases := fun_mk (st := s_Elimination_count_cases) l_Elimination_count_cases c_Elimination_count_cases k_Elimination_count_cases
  have B_Elimination_count_cases := F_Elimination_count_cases.binds (ps := ["self"]) fun _ _ _ _ _ _ us hl => match us, hl with | [_], _ => rfl
  have F_Elimination_count_joined := fun_mk (st := s_Elimination_count_joined) l_Elimination_count_joined c_Elimination_count_joined k_Elimination_count_joined
  have B_Elimination_count_joined := F_Elimination_count_joined.binds (ps := ["self"]) fun _ _ _ _ _ _ us hl => match us, hl with | [_], _ => rfl
  have F_Elimination_joined_rows := fun_mk (st := s_Elimination_joined_rows) l_Elimination_joined_rows c_Elimination_joined_rows k_Elimination_joined_rows
  have B_Elimination_joined_rows := F_Elimination_joined_rows.binds (ps := ["self"]) fun _ _ _ _ _ _ us hl => match us, hl with | [_], _ => rfl
  have F_Elimination_put_in := fun_mk (st := s_Elimination_put_in) l_Elimination_put_in c_Elimination_put_in k_Elimination_put_in
  have B_Elimination_put_in := F_Elimination_put_in.binds (ps := ["self", "expression", "value"]) fun _ _ _ _ _ _ us hl => match us, hl with | [_, _, _], _ => rfl
  have F_Elimination_equation_at := fun_mk (st := s_Elimination_equation_at) l_Elimination_equation_at c_Elimination_equation_at k_Elimination_equation_at
  have B_Elimination_equation_at := F_Elimination_equation_at.binds (ps := ["self", "index"]) fun _ _ _ _ _ _ us hl => match us, hl with | [_, _], _ => rfl
  have F_Elimination_solved_rows := fun_mk (st := s_Elimination_solved_rows) l_Elimination_solved_rows c_Elimination_solved_rows k_Elimination_solved_rows
  have B_Elimination_solved_rows := F_Elimination_solved_rows.binds (ps := ["self", "equation"]) fun _ _ _ _ _ _ us hl => match us, hl with | [_, _], _ => rfl
  have F_Elimination_case_at := fun_mk (st := s_Elimination_case_at) l_Elimination_case_at c_Elimination_case_at k_Elimination_case_at
  have B_Elimination_case_at := F_Elimination_case_at.binds (ps := ["self", "index"]) fun _ _ _ _ _ _ us hl => match us, hl with | [_, _], _ => rfl
  have F_cases := fun_mk (st := s_cases) l_cases c_cases k_cases
  have B_cases := F_cases.binds (ps := ["system", "k"]) fun _ _ _ _ _ _ us hl => match us, hl with | [_, _], _ => rfl
  have F_case_count := fun_mk (st := s_case_count) l_case_count c_case_count k_case_count
  have B_case_count := F_case_count.binds (ps := ["system", "k"]) fun _ _ _ _ _ _ us hl => match us, hl with | [_, _], _ => rfl
  have F_is_multiplier := fun_mk (st := s_is_multiplier) l_is_multiplier c_is_multiplier k_is_multiplier
  have B_is_multiplier := F_is_multiplier.binds (ps := ["kind", "multiplier"]) fun _ _ _ _ _ _ us hl => match us, hl with | [_, _], _ => rfl
  have F_are_multipliers := fun_mk (st := s_are_multipliers) l_are_multipliers c_are_multipliers k_are_multipliers
  have B_are_multipliers := F_are_multipliers.binds (ps := ["system", "multipliers"]) fun _ _ _ _ _ _ us hl => match us, hl with | [_, _], _ => rfl
  have F_added := fun_mk (st := s_added) l_added c_added k_added
  have B_added := F_added.binds (ps := ["system", "multipliers", "divisor"]) fun _ _ _ _ _ _ us hl => match us, hl with | [_, _, _], _ => rfl
  have F_split_by := fun_mk (st := s_split_by) l_split_by c_split_by k_split_by
  have B_split_by := F_split_by.binds (ps := ["system", "expression"]) fun _ _ _ _ _ _ us hl => match us, hl with | [_, _], _ => rfl
  have F_closed := fun_mk (st := s_closed) l_closed c_closed k_closed
  have B_closed := F_closed.binds (ps := ["system"]) fun _ _ _ _ _ _ us hl => match us, hl with | [_], _ => rfl
  have F_check_case_counts := fun_mk (st := s_check_case_counts) l_check_case_counts c_check_case_counts k_check_case_counts
  have B_check_case_counts := F_check_case_counts.binds (ps := ["system", "k"]) fun _ _ _ _ _ _ us hl => match us, hl with | [_, _], _ => rfl
  have F_split_into_cases := fun_mk (st := s_split_into_cases) l_split_into_cases c_split_into_cases k_split_into_cases
  have B_split_into_cases := F_split_into_cases.binds (ps := ["system", "k"]) fun _ _ _ _ _ _ us hl => match us, hl with | [_, _], _ => rfl
  have F_made_by := fun_mk (st := s_made_by) l_made_by c_made_by k_made_by
  have B_made_by := F_made_by.binds (ps := ["system", "step"]) fun _ _ _ _ _ _ us hl => match us, hl with | [_, _], _ => rfl
  have F_check_left := fun_mk (st := s_check_left) l_check_left c_check_left k_check_left
  have B_check_left := F_check_left.binds (ps := ["systems"]) fun _ _ _ _ _ _ us hl => match us, hl with | [_], _ => rfl
  have F_check_numbers := fun_mk (st := s_check_numbers) l_check_numbers c_check_numbers k_check_numbers
  have B_check_numbers := F_check_numbers.binds (ps := ["systems"]) fun _ _ _ _ _ _ us hl => match us, hl with | [_], _ => rfl
  have F_left_behind := fun_mk (st := s_left_behind) l_left_behind c_left_behind k_left_behind
  have B_left_behind := F_left_behind.binds (ps := ["left", "steps", "make"]) fun _ _ _ _ _ _ us hl => match us, hl with | [_, _, _], _ => rfl
  have F_remaining := fun_mk (st := s_remaining) l_remaining c_remaining k_remaining
  have B_remaining := F_remaining.binds (ps := ["system", "steps"]) fun _ _ _ _ _ _ us hl => match us, hl with | [_, _], _ => rfl
  have F_apply_step := fun_mk (st := s_apply_step) l_apply_step c_apply_step k_apply_step
  have B_apply_step := F_apply_step.binds (ps := ["system", "step"]) fun _ _ _ _ _ _ us hl => match us, hl with | [_, _], _ => rfl
  have F_law_cell := fun_mk (st := s_law_cell) l_law_cell c_law_cell k_law_cell
  have B_law_cell := F_law_cell.binds (ps := ["script", "k"]) fun _ _ _ _ _ _ us hl => match us, hl with | [_, _], _ => rfl
  have F_law_draws := fun_mk (st := s_law_draws) l_law_draws c_law_draws k_law_draws
  have B_law_draws := F_law_draws.binds (ps := ["cell", "count"]) fun _ _ _ _ _ _ us hl => match us, hl with | [_, _], _ => rfl
  have F_law_outcome := fun_mk (st := s_law_outcome) l_law_outcome c_law_outcome k_law_outcome
  have B_law_outcome := F_law_outcome.binds (ps := ["system", "step"]) fun _ _ _ _ _ _ us hl => match us, hl with | [_, _], _ => rfl
  have F_law_cases := fun_mk (st := s_law_cases) l_law_cases c_law_cases k_law_cases
  have B_law_cases := F_law_cases.binds (ps := ["cell", "size"]) fun _ _ _ _ _ _ us hl => match us, hl with | [_, _], _ => rfl
  have F_law_great := fun_mk (st := s_law_great) l_law_great c_law_great k_law_great
  have B_law_great := F_law_great.binds (ps := ["cell"]) fun _ _ _ _ _ _ us hl => match us, hl with | [_], _ => rfl
  have F_law_wide := fun_mk (st := s_law_wide) l_law_wide c_law_wide k_law_wide
  have B_law_wide := F_law_wide.binds (ps := ["cell"]) fun _ _ _ _ _ _ us hl => match us, hl with | [_], _ => rfl
  have F_law_weighs := fun_mk (st := s_law_weighs) l_law_weighs c_law_weighs k_law_weighs
  have B_law_weighs := F_law_weighs.binds (ps := ["splits", "rows"]) fun _ _ _ _ _ _ us hl => match us, hl with | [_, _], _ => rfl
  have F_law := fun_mk (st := s_law) l_law c_law k_law
  have B_law := F_law.binds (ps := ["script"]) fun _ _ _ _ _ _ us hl => match us, hl with | [_], _ => rfl
  have eS_ : xS = x_System := by
    have h := TX_.gS.symm.trans (PySem.W.mg_of X G a_System)
    injection h with h
    injection h with h
  rw [eS_] at TX_
  exact ⟨{ xC := xC, xf := xf, xcc := xcc, xc := xc, xd := xd, xM := xM, xG := xG, xW := xW, f_is_integer := x_is_integer, f_is_tuple_of_integers := x_is_tuple_of_integers, f_is_constraint := x_is_constraint, f_impossible := x_impossible, f_common_divisor := x_common_divisor, f_divided := x_divided, f_reduced_inequality := x_reduced_inequality, f_reduced_equation := x_reduced_equation, f_reduced_multiple := x_reduced_multiple, f_reduced_constraint := x_reduced_constraint, f_reduced_rows := x_reduced_rows, f_System___init__ := x_System___init__, f_System_is_impossible := x_System_is_impossible, f_System_reduced := x_System_reduced, f_System___add__ := x_System___add__, f_System___eq__ := x_System___eq__, f_System_weight := x_System_weight, f_add := x_add, f_multiply := x_multiply, f_difference := x_difference, f_with_constant_added := x_with_constant_added, f_without := x_without, f_changed := x_changed, f_common_multiple := x_common_multiple, f_Elimination_rule_for := x_Elimination_rule_for, f_Elimination_pivots_for := x_Elimination_pivots_for, f_Elimination___init__ := x_Elimination___init__, f_Elimination_count_cases := x_Elimination_count_cases, f_Elimination_count_joined := x_Elimination_count_joined, f_Elimination_joined_rows := x_Elimination_joined_rows, f_Elimination_put_in := x_Elimination_put_in, f_Elimination_equation_at := x_Elimination_equation_at, f_Elimination_solved_rows := x_Elimination_solved_rows, f_Elimination_case_at := x_Elimination_case_at, f_cases := x_cases, f_case_count := x_case_count, f_is_multiplier := x_is_multiplier, f_are_multipliers := x_are_multipliers, f_added := x_added, f_split_by := x_split_by, f_closed := x_closed, f_check_case_counts := x_check_case_counts, f_split_into_cases := x_split_into_cases, f_made_by := x_made_by, f_check_left := x_check_left, f_check_numbers := x_check_numbers, f_left_behind := x_left_behind, f_remaining := x_remaining, f_apply_step := x_apply_step, f_law_cell := x_law_cell, f_law_draws := x_law_draws, f_law_outcome := x_law_outcome, f_law_cases := x_law_cases, f_law_great := x_law_great, f_law_wide := x_law_wide, f_law_weighs := x_law_weighs, f_law := fa, d_is_integer := PySem.W.fnOf "is_integer" "is_integer" (defArgs s_is_integer) (defBody s_is_integer) (defScope s_is_integer) .none kV_is_integer dc_is_integer pm_is_integer an_is_integer cd_is_integer ct_is_integer, d_is_tuple_of_integers := PySem.W.fnOf "is_tuple_of_integers" "is_tuple_of_integers" (defArgs s_is_tuple_of_integers) (defBody s_is_tuple_of_integers) (defScope s_is_tuple_of_integers) .none kV_is_tuple_of_integers dc_is_tuple_of_integers pm_is_tuple_of_integers an_is_tuple_of_integers cd_is_tuple_of_integers ct_is_tuple_of_integers, d_is_constraint := PySem.W.fnOf "is_constraint" "is_constraint" (defArgs s_is_constraint) (defBody s_is_constraint) (defScope s_is_constraint) .none kV_is_constraint dc_is_constraint pm_is_constraint an_is_constraint cd_is_constraint ct_is_constraint, d_impossible := PySem.W.fnOf "impossible" "impossible" (defArgs s_impossible) (defBody s_impossible) (defScope s_impossible) .none kV_impossible dc_impossible pm_impossible an_impossible cd_impossible ct_impossible, d_common_divisor := PySem.W.fnOf "common_divisor" "common_divisor" (defArgs s_common_divisor) (defBody s_common_divisor) (defScope s_common_divisor) .none kV_common_divisor dc_common_divisor pm_common_divisor an_common_divisor cd_common_divisor ct_common_divisor, d_divided := PySem.W.fnOf "divided" "divided" (defArgs s_divided) (defBody s_divided) (defScope s_divided) .none kV_divided dc_divided pm_divided an_divided cd_divided ct_divided, d_reduced_inequality := PySem.W.fnOf "reduced_inequality" "reduced_inequality" (defArgs s_reduced_inequality) (defBody s_reduced_inequality) (defScope s_reduced_inequality) .none kV_reduced_inequality dc_reduced_inequality pm_reduced_inequality an_reduced_inequality cd_reduced_inequality ct_reduced_inequality, d_reduced_equation := PySem.W.fnOf "reduced_equation" "reduced_equation" (defArgs s_reduced_equation) (defBody s_reduced_equation) (defScope s_reduced_equation) .none kV_reduced_equation dc_reduced_equation pm_reduced_equation an_reduced_equation cd_reduced_equation ct_reduced_equation, d_reduced_multiple := PySem.W.fnOf "reduced_multiple" "reduced_multiple" (defArgs s_reduced_multiple) (defBody s_reduced_multiple) (defScope s_reduced_multiple) .none kV_reduced_multiple dc_reduced_multiple pm_reduced_multiple an_reduced_multiple cd_reduced_multiple ct_reduced_multiple, d_reduced_constraint := PySem.W.fnOf "reduced_constraint" "reduced_constraint" (defArgs s_reduced_constraint) (defBody s_reduced_constraint) (defScope s_reduced_constraint) .none kV_reduced_constraint dc_reduced_constraint pm_reduced_constraint an_reduced_constraint cd_reduced_constraint ct_reduced_constraint, d_reduced_rows := PySem.W.fnOf "reduced_rows" "reduced_rows" (defArgs s_reduced_rows) (defBody s_reduced_rows) (defScope s_reduced_rows) .none kV_reduced_rows dc_reduced_rows pm_reduced_rows an_reduced_rows cd_reduced_rows ct_reduced_rows, d_System___init__ := PySem.W.fnOf "__init__" "System.__init__" (defArgs s_System___init__) (defBody s_System___init__) (defScope s_System___init__) .none kV_System___init__ dc_System___init__ pm_System___init__ an_System___init__ cd_System___init__ ct_System___init__, d_System_is_impossible := PySem.W.fnOf "is_impossible" "System.is_impossible" (defArgs s_System_is_impossible) (defBody s_System_is_impossible) (defScope s_System_is_impossible) .none kV_System_is_impossible dc_System_is_impossible pm_System_is_impossible an_System_is_impossible cd_System_is_impossible ct_System_is_impossible, d_System_reduced := PySem.W.fnOf "reduced" "System.reduced" (defArgs s_System_reduced) (defBody s_System_reduced) (defScope s_System_reduced) .none kV_System_reduced dc_System_reduced pm_System_reduced an_System_reduced cd_System_reduced ct_System_reduced, d_System___add__ := PySem.W.fnOf "__add__" "System.__add__" (defArgs s_System___add__) (defBody s_System___add__) (defScope s_System___add__) .none kV_System___add__ dc_System___add__ pm_System___add__ an_System___add__ cd_System___add__ ct_System___add__, d_System___eq__ := PySem.W.fnOf "__eq__" "System.__eq__" (defArgs s_System___eq__) (defBody s_System___eq__) (defScope s_System___eq__) .none kV_System___eq__ dc_System___eq__ pm_System___eq__ an_System___eq__ cd_System___eq__ ct_System___eq__, d_System_weight := PySem.W.fnOf "weight" "System.weight" (defArgs s_System_weight) (defBody s_System_weight) (defScope s_System_weight) .none kV_System_weight dc_System_weight pm_System_weight an_System_weight cd_System_weight ct_System_weight, d_add := PySem.W.fnOf "add" "add" (defArgs s_add) (defBody s_add) (defScope s_add) .none kV_add dc_add pm_add an_add cd_add ct_add, d_multiply := PySem.W.fnOf "multiply" "multiply" (defArgs s_multiply) (defBody s_multiply) (defScope s_multiply) .none kV_multiply dc_multiply pm_multiply an_multiply cd_multiply ct_multiply, d_difference := PySem.W.fnOf "difference" "difference" (defArgs s_difference) (defBody s_difference) (defScope s_difference) .none kV_difference dc_difference pm_difference an_difference cd_difference ct_difference, d_with_constant_added := PySem.W.fnOf "with_constant_added" "with_constant_added" (defArgs s_with_constant_added) (defBody s_with_constant_added) (defScope s_with_constant_added) .none kV_with_constant_added dc_with_constant_added pm_with_constant_added an_with_constant_added cd_with_constant_added ct_with_constant_added, d_without := PySem.W.fnOf "without" "without" (defArgs s_without) (defBody s_without) (defScope s_without) .none kV_without dc_without pm_without an_without cd_without ct_without, d_changed := PySem.W.fnOf "changed" "changed" (defArgs s_changed) (defBody s_changed) (defScope s_changed) .none kV_changed dc_changed pm_changed an_changed cd_changed ct_changed, d_common_multiple := PySem.W.fnOf "common_multiple" "common_multiple" (defArgs s_common_multiple) (defBody s_common_multiple) (defScope s_common_multiple) .none kV_common_multiple dc_common_multiple pm_common_multiple an_common_multiple cd_common_multiple ct_common_multiple, d_Elimination_rule_for := PySem.W.fnOf "rule_for" "Elimination.rule_for" (defArgs s_Elimination_rule_for) (defBody s_Elimination_rule_for) (defScope s_Elimination_rule_for) .none kV_Elimination_rule_for dc_Elimination_rule_for pm_Elimination_rule_for an_Elimination_rule_for cd_Elimination_rule_for ct_Elimination_rule_for, d_Elimination_pivots_for := PySem.W.fnOf "pivots_for" "Elimination.pivots_for" (defArgs s_Elimination_pivots_for) (defBody s_Elimination_pivots_for) (defScope s_Elimination_pivots_for) .none kV_Elimination_pivots_for dc_Elimination_pivots_for pm_Elimination_pivots_for an_Elimination_pivots_for cd_Elimination_pivots_for ct_Elimination_pivots_for, d_Elimination___init__ := PySem.W.fnOf "__init__" "Elimination.__init__" (defArgs s_Elimination___init__) (defBody s_Elimination___init__) (defScope s_Elimination___init__) .none kV_Elimination___init__ dc_Elimination___init__ pm_Elimination___init__ an_Elimination___init__ cd_Elimination___init__ ct_Elimination___init__, d_Elimination_count_cases := PySem.W.fnOf "count_cases" "Elimination.count_cases" (defArgs s_Elimination_count_cases) (defBody s_Elimination_count_cases) (defScope s_Elimination_count_cases) .none kV_Elimination_count_cases dc_Elimination_count_cases pm_Elimination_count_cases an_Elimination_count_cases cd_Elimination_count_cases ct_Elimination_count_cases, d_Elimination_count_joined := PySem.W.fnOf "count_joined" "Elimination.count_joined" (defArgs s_Elimination_count_joined) (defBody s_Elimination_count_joined) (defScope s_Elimination_count_joined) .none kV_Elimination_count_joined dc_Elimination_count_joined pm_Elimination_count_joined an_Elimination_count_joined cd_Elimination_count_joined ct_Elimination_count_joined, d_Elimination_joined_rows := PySem.W.fnOf "joined_rows" "Elimination.joined_rows" (defArgs s_Elimination_joined_rows) (defBody s_Elimination_joined_rows) (defScope s_Elimination_joined_rows) .none kV_Elimination_joined_rows dc_Elimination_joined_rows pm_Elimination_joined_rows an_Elimination_joined_rows cd_Elimination_joined_rows ct_Elimination_joined_rows, d_Elimination_put_in := PySem.W.fnOf "put_in" "Elimination.put_in" (defArgs s_Elimination_put_in) (defBody s_Elimination_put_in) (defScope s_Elimination_put_in) .none kV_Elimination_put_in dc_Elimination_put_in pm_Elimination_put_in an_Elimination_put_in cd_Elimination_put_in ct_Elimination_put_in, d_Elimination_equation_at := PySem.W.fnOf "equation_at" "Elimination.equation_at" (defArgs s_Elimination_equation_at) (defBody s_Elimination_equation_at) (defScope s_Elimination_equation_at) .none kV_Elimination_equation_at dc_Elimination_equation_at pm_Elimination_equation_at an_Elimination_equation_at cd_Elimination_equation_at ct_Elimination_equation_at, d_Elimination_solved_rows := PySem.W.fnOf "solved_rows" "Elimination.solved_rows" (defArgs s_Elimination_solved_rows) (defBody s_Elimination_solved_rows) (defScope s_Elimination_solved_rows) .none kV_Elimination_solved_rows dc_Elimination_solved_rows pm_Elimination_solved_rows an_Elimination_solved_rows cd_Elimination_solved_rows ct_Elimination_solved_rows, d_Elimination_case_at := PySem.W.fnOf "case_at" "Elimination.case_at" (defArgs s_Elimination_case_at) (defBody s_Elimination_case_at) (defScope s_Elimination_case_at) .none kV_Elimination_case_at dc_Elimination_case_at pm_Elimination_case_at an_Elimination_case_at cd_Elimination_case_at ct_Elimination_case_at, d_cases := PySem.W.fnOf "cases" "cases" (defArgs s_cases) (defBody s_cases) (defScope s_cases) .none kV_cases dc_cases pm_cases an_cases cd_cases ct_cases, d_case_count := PySem.W.fnOf "case_count" "case_count" (defArgs s_case_count) (defBody s_case_count) (defScope s_case_count) .none kV_case_count dc_case_count pm_case_count an_case_count cd_case_count ct_case_count, d_is_multiplier := PySem.W.fnOf "is_multiplier" "is_multiplier" (defArgs s_is_multiplier) (defBody s_is_multiplier) (defScope s_is_multiplier) .none kV_is_multiplier dc_is_multiplier pm_is_multiplier an_is_multiplier cd_is_multiplier ct_is_multiplier, d_are_multipliers := PySem.W.fnOf "are_multipliers" "are_multipliers" (defArgs s_are_multipliers) (defBody s_are_multipliers) (defScope s_are_multipliers) .none kV_are_multipliers dc_are_multipliers pm_are_multipliers an_are_multipliers cd_are_multipliers ct_are_multipliers, d_added := PySem.W.fnOf "added" "added" (defArgs s_added) (defBody s_added) (defScope s_added) .none kV_added dc_added pm_added an_added cd_added ct_added, d_split_by := PySem.W.fnOf "split_by" "split_by" (defArgs s_split_by) (defBody s_split_by) (defScope s_split_by) .none kV_split_by dc_split_by pm_split_by an_split_by cd_split_by ct_split_by, d_closed := PySem.W.fnOf "closed" "closed" (defArgs s_closed) (defBody s_closed) (defScope s_closed) .none kV_closed dc_closed pm_closed an_closed cd_closed ct_closed, d_check_case_counts := PySem.W.fnOf "check_case_counts" "check_case_counts" (defArgs s_check_case_counts) (defBody s_check_case_counts) (defScope s_check_case_counts) .none kV_check_case_counts dc_check_case_counts pm_check_case_counts an_check_case_counts cd_check_case_counts ct_check_case_counts, d_split_into_cases := PySem.W.fnOf "split_into_cases" "split_into_cases" (defArgs s_split_into_cases) (defBody s_split_into_cases) (defScope s_split_into_cases) .none kV_split_into_cases dc_split_into_cases pm_split_into_cases an_split_into_cases cd_split_into_cases ct_split_into_cases, d_made_by := PySem.W.fnOf "made_by" "made_by" (defArgs s_made_by) (defBody s_made_by) (defScope s_made_by) .none kV_made_by dc_made_by pm_made_by an_made_by cd_made_by ct_made_by, d_check_left := PySem.W.fnOf "check_left" "check_left" (defArgs s_check_left) (defBody s_check_left) (defScope s_check_left) .none kV_check_left dc_check_left pm_check_left an_check_left cd_check_left ct_check_left, d_check_numbers := PySem.W.fnOf "check_numbers" "check_numbers" (defArgs s_check_numbers) (defBody s_check_numbers) (defScope s_check_numbers) .none kV_check_numbers dc_check_numbers pm_check_numbers an_check_numbers cd_check_numbers ct_check_numbers, d_left_behind := PySem.W.fnOf "left_behind" "left_behind" (defArgs s_left_behind) (defBody s_left_behind) (defScope s_left_behind) .none kV_left_behind dc_left_behind pm_left_behind an_left_behind cd_left_behind ct_left_behind, d_remaining := PySem.W.fnOf "remaining" "remaining" (defArgs s_remaining) (defBody s_remaining) (defScope s_remaining) .none kV_remaining dc_remaining pm_remaining an_remaining cd_remaining ct_remaining, d_apply_step := PySem.W.fnOf "apply_step" "apply_step" (defArgs s_apply_step) (defBody s_apply_step) (defScope s_apply_step) .none kV_apply_step dc_apply_step pm_apply_step an_apply_step cd_apply_step ct_apply_step, d_law_cell := PySem.W.fnOf "_law_cell" "_law_cell" (defArgs s_law_cell) (defBody s_law_cell) (defScope s_law_cell) .none kV_law_cell dc_law_cell pm_law_cell an_law_cell cd_law_cell ct_law_cell, d_law_draws := PySem.W.fnOf "_law_draws" "_law_draws" (defArgs s_law_draws) (defBody s_law_draws) (defScope s_law_draws) .none kV_law_draws dc_law_draws pm_law_draws an_law_draws cd_law_draws ct_law_draws, d_law_outcome := PySem.W.fnOf "_law_outcome" "_law_outcome" (defArgs s_law_outcome) (defBody s_law_outcome) (defScope s_law_outcome) .none kV_law_outcome dc_law_outcome pm_law_outcome an_law_outcome cd_law_outcome ct_law_outcome, d_law_cases := PySem.W.fnOf "_law_cases" "_law_cases" (defArgs s_law_cases) (defBody s_law_cases) (defScope s_law_cases) .none kV_law_cases dc_law_cases pm_law_cases an_law_cases cd_law_cases ct_law_cases, d_law_great := PySem.W.fnOf "_law_great" "_law_great" (defArgs s_law_great) (defBody s_law_great) (defScope s_law_great) .none kV_law_great dc_law_great pm_law_great an_law_great cd_law_great ct_law_great, d_law_wide := PySem.W.fnOf "_law_wide" "_law_wide" (defArgs s_law_wide) (defBody s_law_wide) (defScope s_law_wide) .none kV_law_wide dc_law_wide pm_law_wide an_law_wide cd_law_wide ct_law_wide, d_law_weighs := PySem.W.fnOf "_law_weighs" "_law_weighs" (defArgs s_law_weighs) (defBody s_law_weighs) (defScope s_law_weighs) .none kV_law_weighs dc_law_weighs pm_law_weighs an_law_weighs cd_law_weighs ct_law_weighs, d_law := PySem.W.fnOf "law" "law" (defArgs s_law) (defBody s_law) (defScope s_law) .none kV_law dc_law pm_law an_law cd_law ct_law, t_MOST_JOINED := t_MOST_JOINED, t_MOST_CASES := t_MOST_CASES, t_MOST_WEIGHT := t_MOST_WEIGHT, t_MOST_VARIABLES := t_MOST_VARIABLES, t_GREATEST := t_GREATEST, C_System := x_System, C_Elimination := x_Elimination, p_System_is_impossible := y_System_is_impossible, p_System_weight := y_System_weight },
   { tf := TX_.tf, tm := TX_.tm, tg := TX_.tg, gW := TX_.gW, eM := TX_.eM, eG := TX_.eG, m1 := TX_.m1, m2 := TX_.m2, g1 := TX_.g1, g2 := TX_.g2, x1 := TX_.x1, x2 := TX_.x2, x3 := TX_.x3, kS := TX_.kS, sS := TX_.sS, b_isinstance := PySem.W.mg_none_of X G z_isinstance, b_bool := PySem.W.mg_none_of X G z_bool, b_int := PySem.W.mg_none_of X G z_int, b_all := PySem.W.mg_none_of X G z_all, b_len := PySem.W.mg_none_of X G z_len, b_tuple := PySem.W.mg_none_of X G z_tuple, b_min := PySem.W.mg_none_of X G z_min, b_zip := PySem.W.mg_none_of X G z_zip, b_sum := PySem.W.mg_none_of X G z_sum, b_max := PySem.W.mg_none_of X G z_max, b_abs := PySem.W.mg_none_of X G z_abs, b_range := PySem.W.mg_none_of X G z_range, b_any := PySem.W.mg_none_of X G z_any, b_enumerate := PySem.W.mg_none_of X G z_enumerate, u_gcd := PySem.W.mg_of X G u_gcd, u_lcm := PySem.W.mg_of X G u_lcm, g_is_integer := PySem.W.mg_of X G a_is_integer, F_is_integer := F_is_integer, B_is_integer := B_is_integer, g_is_tuple_of_integers := PySem.W.mg_of X G a_is_tuple_of_integers, F_is_tuple_of_integers := F_is_tuple_of_integers, B_is_tuple_of_integers := B_is_tuple_of_integers, g_is_constraint := PySem.W.mg_of X G a_is_constraint, F_is_constraint := F_is_constraint, B_is_constraint := B_is_constraint, g_impossible := PySem.W.mg_of X G a_impossible, F_impossible := F_impossible, B_impossible := B_impossible, g_common_divisor := PySem.W.mg_of X G a_common_divisor, F_common_divisor := F_common_divisor, B_common_divisor := B_common_divisor, g_divided := PySem.W.mg_of X G a_divided, F_divided := F_divided, B_divided := B_divided, g_reduced_inequality := PySem.W.mg_of X G a_reduced_inequality, F_reduced_inequality := F_reduced_inequality, B_reduced_inequality := B_reduced_inequality, g_reduced_equation := PySem.W.mg_of X G a_reduced_equation, F_reduced_equation := F_reduced_equation, B_reduced_equation := B_reduced_equation, g_reduced_multiple := PySem.W.mg_of X G a_reduced_multiple, F_reduced_multiple := F_reduced_multiple, B_reduced_multiple := B_reduced_multiple, g_reduced_constraint := PySem.W.mg_of X G a_reduced_constraint, F_reduced_constraint := F_reduced_constraint, B_reduced_constraint := B_reduced_constraint, g_reduced_rows := PySem.W.mg_of X G a_reduced_rows, F_reduced_rows := F_reduced_rows, B_reduced_rows := B_reduced_rows, me_System___init__ := ⟨a_System___init__, i_System___init__, k_System___init__⟩, F_System___init__ := F_System___init__, B_System___init__ := B_System___init__, pr_System_is_impossible := ⟨a_System_is_impossible, g_System_is_impossible, t_System_is_impossible, _, r_System_is_impossible⟩, F_System_is_impossible := F_System_is_impossible, B_System_is_impossible := B_System_is_impossible, me_System_reduced := ⟨a_System_reduced, i_System_reduced, k_System_reduced⟩, F_System_reduced := F_System_reduced, B_System_reduced := B_System_reduced, me_System___add__ := ⟨a_System___add__, i_System___add__, k_System___add__⟩, F_System___add__ := F_System___add__, B_System___add__ := B_System___add__, me_System___eq__ := ⟨a_System___eq__, i_System___eq__, k_System___eq__⟩, F_System___eq__ := F_System___eq__, B_System___eq__ := B_System___eq__, pr_System_weight := ⟨a_System_weight, g_System_weight, t_System_weight, _, r_System_weight⟩, F_System_weight := F_System_weight, B_System_weight := B_System_weight, g_add := PySem.W.mg_of X G a_add, F_add := F_add, B_add := B_add, g_multiply := PySem.W.mg_of X G a_multiply, F_multiply := F_multiply, B_multiply := B_multiply, g_difference := PySem.W.mg_of X G a_difference, F_difference := F_difference, B_difference := B_difference, g_with_constant_added := PySem.W.mg_of X G a_with_constant_added, F_with_constant_added := F_with_constant_added, B_with_constant_added := B_with_constant_added, g_without := PySem.W.mg_of X G a_without, F_without := F_without, B_without := B_without, g_changed := PySem.W.mg_of X G a_changed, F_changed := F_changed, B_changed := B_changed, g_common_multiple := PySem.W.mg_of X G a_common_multiple, F_common_multiple := F_common_multiple, B_common_multiple := B_common_multiple, me_Elimination_rule_for := ⟨a_Elimination_rule_for, i_Elimination_rule_for, k_Elimination_rule_for⟩, F_Elimination_rule_for := F_Elimination_rule_for, B_Elimination_rule_for := B_Elimination_rule_for, me_Elimination_pivots_for := ⟨a_Elimination_pivots_for, i_Elimination_pivots_for, k_Elimination_pivots_for⟩, F_Elimination_pivots_for := F_Elimination_pivots_for, B_Elimination_pivots_for := B_Elimination_pivots_for, me_Elimination___init__ := ⟨a_Elimination___init__, i_Elimination___init__, k_Elimination___init__⟩, F_Elimination___init__ := F_Elimination___init__, B_Elimination___init__ := B_Elimination___init__, me_Elimination_count_cases := ⟨a_Elimination_count_cases, i_Elimination_count_cases, k_Elimination_count_cases⟩, F_Elimination_count_cases := F_Elimination_count_cases, B_Elimination_count_cases := B_Elimination_count_cases, me_Elimination_count_joined := ⟨a_Elimination_count_joined, i_Elimination_count_joined, k_Elimination_count_joined⟩, F_Elimination_count_joined := F_Elimination_count_joined, B_Elimination_count_joined := B_Elimination_count_joined, me_Elimination_joined_rows := ⟨a_Elimination_joined_rows, i_Elimination_joined_rows, k_Elimination_joined_rows⟩, F_Elimination_joined_rows := F_Elimination_joined_rows, B_Elimination_joined_rows := B_Elimination_joined_rows, me_Elimination_put_in := ⟨a_Elimination_put_in, i_Elimination_put_in, k_Elimination_put_in⟩, F_Elimination_put_in := F_Elimination_put_in, B_Elimination_put_in := B_Elimination_put_in, me_Elimination_equation_at := ⟨a_Elimination_equation_at, i_Elimination_equation_at, k_Elimination_equation_at⟩, F_Elimination_equation_at := F_Elimination_equation_at, B_Elimination_equation_at := B_Elimination_equation_at, me_Elimination_solved_rows := ⟨a_Elimination_solved_rows, i_Elimination_solved_rows, k_Elimination_solved_rows⟩, F_Elimination_solved_rows := F_Elimination_solved_rows, B_Elimination_solved_rows := B_Elimination_solved_rows, me_Elimination_case_at := ⟨a_Elimination_case_at, i_Elimination_case_at, k_Elimination_case_at⟩, F_Elimination_case_at := F_Elimination_case_at, B_Elimination_case_at := B_Elimination_case_at, g_cases := PySem.W.mg_of X G a_cases, F_cases := F_cases, B_cases := B_cases, g_case_count := PySem.W.mg_of X G a_case_count, F_case_count := F_case_count, B_case_count := B_case_count, g_is_multiplier := PySem.W.mg_of X G a_is_multiplier, F_is_multiplier := F_is_multiplier, B_is_multiplier := B_is_multiplier, g_are_multipliers := PySem.W.mg_of X G a_are_multipliers, F_are_multipliers := F_are_multipliers, B_are_multipliers := B_are_multipliers, g_added := PySem.W.mg_of X G a_added, F_added := F_added, B_added := B_added, g_split_by := PySem.W.mg_of X G a_split_by, F_split_by := F_split_by, B_split_by := B_split_by, g_closed := PySem.W.mg_of X G a_closed, F_closed := F_closed, B_closed := B_closed, g_check_case_counts := PySem.W.mg_of X G a_check_case_counts, F_check_case_counts := F_check_case_counts, B_check_case_counts := B_check_case_counts, g_split_into_cases := PySem.W.mg_of X G a_split_into_cases, F_split_into_cases := F_split_into_cases, B_split_into_cases := B_split_into_cases, g_made_by := PySem.W.mg_of X G a_made_by, F_made_by := F_made_by, B_made_by := B_made_by, g_check_left := PySem.W.mg_of X G a_check_left, F_check_left := F_check_left, B_check_left := B_check_left, g_check_numbers := PySem.W.mg_of X G a_check_numbers, F_check_numbers := F_check_numbers, B_check_numbers := B_check_numbers, g_left_behind := PySem.W.mg_of X G a_left_behind, F_left_behind := F_left_behind, B_left_behind := B_left_behind, g_remaining := PySem.W.mg_of X G a_remaining, F_remaining := F_remaining, B_remaining := B_remaining, g_apply_step := PySem.W.mg_of X G a_apply_step, F_apply_step := F_apply_step, B_apply_step := B_apply_step, g_law_cell := PySem.W.mg_of X G a_law_cell, F_law_cell := F_law_cell, B_law_cell := B_law_cell, g_law_draws := PySem.W.mg_of X G a_law_draws, F_law_draws := F_law_draws, B_law_draws := B_law_draws, g_law_outcome := PySem.W.mg_of X G a_law_outcome, F_law_outcome := F_law_outcome, B_law_outcome := B_law_outcome, g_law_cases := PySem.W.mg_of X G a_law_cases, F_law_cases := F_law_cases, B_law_cases := B_law_cases, g_law_great := PySem.W.mg_of X G a_law_great, F_law_great := F_law_great, B_law_great := B_law_great, g_law_wide := PySem.W.mg_of X G a_law_wide, F_law_wide := F_law_wide, B_law_wide := B_law_wide, g_law_weighs := PySem.W.mg_of X G a_law_weighs, F_law_weighs := F_law_weighs, B_law_weighs := B_law_weighs, g_law := PySem.W.mg_of X G a_law, F_law := F_law, B_law := B_law, g_MOST_JOINED := PySem.W.mg_of X G m_MOST_JOINED, g_MOST_CASES := PySem.W.mg_of X G m_MOST_CASES, g_MOST_WEIGHT := PySem.W.mg_of X G m_MOST_WEIGHT, g_MOST_VARIABLES := PySem.W.mg_of X G m_MOST_VARIABLES, g_GREATEST := PySem.W.mg_of X G m_GREATEST, gC_System := PySem.W.mg_of X G a_System, cl_System := ⟨pg_System, hd_System, po_System, sa_System⟩, mk_System := ⟨mk_System, a_System___init__, i_System___init__, kc_System⟩, na_System_variables := n_System_variables, na_System_rows := n_System_rows, ad_System := ⟨d1_System, a_System___add__, i_System___add__, d2_System, d3_System, d4_System, d5_System⟩, is_System := ⟨⟨pg_System, hd_System, po_System, sa_System⟩, q1_System, q2_System, q3_System, q4_System, kit_self⟩, gC_Elimination := PySem.W.mg_of X G a_Elimination, cl_Elimination := ⟨pg_Elimination, hd_Elimination, po_Elimination, sa_Elimination⟩, mk_Elimination := ⟨mk_Elimination, a_Elimination___init__, i_Elimination___init__, kc_Elimination⟩, na_Elimination_system := n_Elimination_system, na_Elimination_k := n_Elimination_k, na_Elimination_others := n_Elimination_others, na_Elimination_lowers := n_Elimination_lowers, na_Elimination_uppers := n_Elimination_uppers, na_Elimination_period := n_Elimination_period, na_Elimination_rule := n_Elimination_rule, na_Elimination_pivots := n_Elimination_pivots }, rfl, fun s v => .of_eq rfl⟩
end K60
open PySem PySem.W PyProof.Rows in
set_option maxRecDepth 100000 in
set_option maxHeartbeats 0 in
theorem PySem.Challenge.cw_loopworks_k60_limits_of_steps_holds : PySem.Challenge.rw_loopworks_k60_limits_of_steps.Holds := by
  w_on; o_law; k_head; (case hw => w_witness2)
  k_fill
  refine L2.walk_ofB (l := PySem.Challenge.rw_loopworks_k60_limits_of_steps) (n := 63) (k := 16) (x := "script") (CX := fun _ => L2.CX0) (sp := fun w => K60.sp_law _) rfl (by decide) rfl ⟨rfl, by decide, by decide⟩ (fun w h Y => PySem.W.kIn_of Y) ?F (fun _ H a ns hl hb hO hS => K60.sp_law_of hl hb hO hS) (fun _ _ _ _ _ h => h)
  case F =>
    intro w mg fa h KX G hmg
    obtain ⟨xC, xf, xcc, xc, xd, xM, xG, xW, xS, TX_⟩ : ∃ xC xf xcc xc xd xM xG xW xS, K60.TA0 _ mg xC xf xcc xc xd xM xG xW xS := by
      refine' ⟨_, _, _, _, _, _, _, _, _, K60.ta_mk KX G (K60.tf_mk KX G ?a1 ?a2 ?a3 ?a4 ?a5 ?a6 ?a7 ?a8 ?a9 ?b1 ?b2 ?b3 ?b4 ?b5 ?b6 ?b7 ?b8 ?b9 ?c1 ?c2 ?c3 ?c4) (K60.te_mk KX G ?m1 ?m2 ?m3 ?m4 ?m5 ?m6) (K60.te_mk KX G ?g1 ?g2 ?g3 ?g4 ?g5 ?g6) (K60.exc_mk ?u1 ?u2 ?u3 ?u4 ?u5 ?u6 ?u7 ?u8) (K60.exc_mk ?v1 ?v2 ?v3 ?v4 ?v5 ?v6 ?v7 ?v8) ?w1 ?w2 ?w3 ?w4 ?w5 ?w6 ?w7 ?s1 ?s2 ?s3 ?s4 ?s5 ?s6 ?s7 ?s8 ?y1 ?y2 ?y3 ?y4⟩
      (case a1 => k_is)
      (case a2 => k_is)
      (case a3 => k_is)
      (case a4 => k_is)
      (case a5 => rfl)
      (case a6 => decide +kernel)
      (case a7 => k_is)
      (case a8 => k_is)
      (case a9 => k_is)
      (case b1 => k_is)
      (case b2 => k_is)
      (case b3 => ks_is)
      (case b4 => k_is)
      (case b5 => k_is)
      (case b6 => decide +kernel)
      (case b7 => k_is)
      (case b8 => k_is)
      (case b9 => k_is)
      (case c1 => k_is)
      (case c2 => k_is)
      (case c3 => k_is)
      (case c4 => k_is)
      (case m1 => k_is)
      (case m2 => k_exc)
      (case m3 => k_is)
      (case m4 => k_is)
      (case m5 => k_is)
      (case m6 => k_is)
      (case g1 => k_is)
      (case g2 => k_exc)
      (case g3 => k_is)
      (case g4 => k_is)
      (case g5 => k_is)
      (case g6 => k_is)
      (case u1 => k_is)
      (case u2 => k_is)
      (case u3 => k_is)
      (case u4 => k_is)
      (case u5 => k_is)
      (case u6 => k_is)
      (case u7 => k_is)
      (case u8 => k_is)
      (case v1 => k_is)
      (case v2 => k_is)
      (case v3 => k_is)
      (case v4 => k_is)
      (case v5 => k_is)
      (case v6 => k_is)
      (case v7 => k_is)
      (case v8 => k_is)
      (case w1 => k_is)
      (case w2 => k_is)
      (case w3 => k_is)
      (case w4 => decide)
      (case w5 => decide)
      (case w6 => k_is)
      (case w7 => k_is)
      (case s1 => k_is)
      (case s2 => k_is)
      (case s3 => decide)
      (case s4 => decide)
      (case s5 => k_is)
      (case s6 => k_is)
      (case s7 => k_is)
      (case s8 => k_is)
      (case y1 => k_is)
      (case y2 => k_is)
      (case y3 => k_is)
      (case y4 => k_is)
    obtain ⟨A, T, e, hb⟩ : ∃ A : K60.Ad, K60.Txt _ mg A ∧ A.f_law = fa ∧ (∀ (s : Shared) (v : Value), BindsTo s A.d_law ⟨[v], []⟩ [("script", v)]) := by
      refine' K60.all_mk KX G hmg TX_ ?a_Elimination ?pg_Elimination ?hd_Elimination ?po_Elimination ?sa_Elimination ?mk_Elimination ?kc_Elimination ?n_Elimination_system ?n_Elimination_k ?n_Elimination_others ?n_Elimination_lowers ?n_Elimination_uppers ?n_Elimination_period ?n_Elimination_rule ?n_Elimination_pivots ?a_System ?pg_System ?hd_System ?po_System ?sa_System ?mk_System ?kc_System ?n_System_variables ?n_System_rows ?q1_System ?q2_System ?q3_System ?q4_System ?a_is_integer ?l_is_integer ?c_is_integer ?k_is_integer ?a_is_tuple_of_integers ?l_is_tuple_of_integers ?c_is_tuple_of_integers ?k_is_tuple_of_integers ?a_is_constraint ?l_is_constraint ?c_is_constraint ?k_is_constraint ?a_impossible ?l_impossible ?c_impossible ?k_impossible ?a_common_divisor ?l_common_divisor ?c_common_divisor ?k_common_divisor ?a_divided ?l_divided ?c_divided ?k_divided ?a_reduced_inequality ?l_reduced_inequality ?c_reduced_inequality ?k_reduced_inequality ?a_reduced_equation ?l_reduced_equation ?c_reduced_equation ?k_reduced_equation ?a_reduced_multiple ?l_reduced_multiple ?c_reduced_multiple ?k_reduced_multiple ?a_reduced_constraint ?l_reduced_constraint ?c_reduced_constraint ?k_reduced_constraint ?a_reduced_rows ?l_reduced_rows ?c_reduced_rows ?k_reduced_rows ?a_System___init__ ?i_System___init__ ?l_System___init__ ?c_System___init__ ?k_System___init__ ?a_System_is_impossible ?g_System_is_impossible ?t_System_is_impossible ?r_System_is_impossible ?l_System_is_impossible ?c_System_is_impossible ?k_System_is_impossible ?a_System_reduced ?i_System_reduced ?l_System_reduced ?c_System_reduced ?k_System_reduced ?a_System___add__ ?i_System___add__ ?l_System___add__ ?c_System___add__ ?k_System___add__ ?a_System___eq__ ?i_System___eq__ ?l_System___eq__ ?c_System___eq__ ?k_System___eq__ ?a_System_weight ?g_System_weight ?t_System_weight ?r_System_weight ?l_System_weight ?c_System_weight ?k_System_weight ?a_add ?l_add ?c_add ?k_add ?a_multiply ?l_multiply ?c_multiply ?k_multiply ?a_difference ?l_difference ?c_difference ?k_difference ?a_with_constant_added ?l_with_constant_added ?c_with_constant_added ?k_with_constant_added ?a_without ?l_without ?c_without ?k_without ?a_changed ?l_changed ?c_changed ?k_changed ?a_common_multiple ?l_common_multiple ?c_common_multiple ?k_common_multiple ?a_Elimination_rule_for ?i_Elimination_rule_for ?l_Elimination_rule_for ?c_Elimination_rule_for ?k_Elimination_rule_for ?a_Elimination_pivots_for ?i_Elimination_pivots_for ?l_Elimination_pivots_for ?c_Elimination_pivots_for ?k_Elimination_pivots_for ?a_Elimination___init__ ?i_Elimination___init__ ?l_Elimination___init__ ?c_Elimination___init__ ?k_Elimination___init__ ?a_Elimination_count_cases ?i_Elimination_count_cases ?l_Elimination_count_cases ?c_Elimination_count_cases ?k_Elimination_count_cases ?a_Elimination_count_joined ?i_Elimination_count_joined ?l_Elimination_count_joined ?c_Elimination_count_joined ?k_Elimination_count_joined ?a_Elimination_joined_rows ?i_Elimination_joined_rows ?l_Elimination_joined_rows ?c_Elimination_joined_rows ?k_Elimination_joined_rows ?a_Elimination_put_in ?i_Elimination_put_in ?l_Elimination_put_in ?c_Elimination_put_in ?k_Elimination_put_in ?a_Elimination_equation_at ?i_Elimination_equation_at ?l_Elimination_equation_at ?c_Elimination_equation_at ?k_Elimination_equation_at ?a_Elimination_solved_rows ?i_Elimination_solved_rows ?l_Elimination_solved_rows ?c_Elimination_solved_rows ?k_Elimination_solved_rows ?a_Elimination_case_at ?i_Elimination_case_at ?l_Elimination_case_at ?c_Elimination_case_at ?k_Elimination_case_at ?a_cases ?l_cases ?c_cases ?k_cases ?a_case_count ?l_case_count ?c_case_count ?k_case_count ?a_is_multiplier ?l_is_multiplier ?c_is_multiplier ?k_is_multiplier ?a_are_multipliers ?l_are_multipliers ?c_are_multipliers ?k_are_multipliers ?a_added ?l_added ?c_added ?k_added ?a_split_by ?l_split_by ?c_split_by ?k_split_by ?a_closed ?l_closed ?c_closed ?k_closed ?a_check_case_counts ?l_check_case_counts ?c_check_case_counts ?k_check_case_counts ?a_split_into_cases ?l_split_into_cases ?c_split_into_cases ?k_split_into_cases ?a_made_by ?l_made_by ?c_made_by ?k_made_by ?a_check_left ?l_check_left ?c_check_left ?k_check_left ?a_check_numbers ?l_check_numbers ?c_check_numbers ?k_check_numbers ?a_left_behind ?l_left_behind ?c_left_behind ?k_left_behind ?a_remaining ?l_remaining ?c_remaining ?k_remaining ?a_apply_step ?l_apply_step ?c_apply_step ?k_apply_step ?a_law_cell ?l_law_cell ?c_law_cell ?k_law_cell ?a_law_draws ?l_law_draws ?c_law_draws ?k_law_draws ?a_law_outcome ?l_law_outcome ?c_law_outcome ?k_law_outcome ?a_law_cases ?l_law_cases ?c_law_cases ?k_law_cases ?a_law_great ?l_law_great ?c_law_great ?k_law_great ?a_law_wide ?l_law_wide ?c_law_wide ?k_law_wide ?a_law_weighs ?l_law_weighs ?c_law_weighs ?k_law_weighs ?a_law ?l_law ?c_law ?k_law ?d1_System ?d2_System ?d3_System ?d4_System ?d5_System ?z_isinstance ?z_bool ?z_int ?z_all ?z_len ?z_tuple ?z_min ?z_zip ?z_sum ?z_max ?z_abs ?z_range ?z_any ?z_enumerate ?u_gcd ?u_lcm ?m_MOST_JOINED ?m_MOST_CASES ?m_MOST_WEIGHT ?m_MOST_VARIABLES ?m_GREATEST
      (case a_Elimination => k_is)
      (case pg_Elimination => k_is)
      (case hd_Elimination => k_is)
      (case po_Elimination => k_is)
      (case sa_Elimination => k_is)
      (case mk_Elimination => k_is)
      (case kc_Elimination => k_is)
      (case n_Elimination_system => k_is)
      (case n_Elimination_k => k_is)
      (case n_Elimination_others => k_is)
      (case n_Elimination_lowers => k_is)
      (case n_Elimination_uppers => k_is)
      (case n_Elimination_period => k_is)
      (case n_Elimination_rule => k_is)
      (case n_Elimination_pivots => k_is)
      (case a_System => k_is)
      (case pg_System => k_is)
      (case hd_System => k_is)
      (case po_System => k_is)
      (case sa_System => k_is)
      (case mk_System => k_is)
      (case kc_System => k_is)
      (case n_System_variables => k_is)
      (case n_System_rows => k_is)
      (case q1_System => k_is)
      (case q2_System => k_is)
      (case q3_System => k_is)
      (case q4_System => k_is)
      (case a_is_integer => k_is)
      (case l_is_integer => k_is)
      (case c_is_integer => k_is)
      (case k_is_integer => k_is)
      (case a_is_tuple_of_integers => k_is)
      (case l_is_tuple_of_integers => k_is)
      (case c_is_tuple_of_integers => k_is)
      (case k_is_tuple_of_integers => k_is)
      (case a_is_constraint => k_is)
      (case l_is_constraint => k_is)
      (case c_is_constraint => k_is)
      (case k_is_constraint => k_is)
      (case a_impossible => k_is)
      (case l_impossible => k_is)
      (case c_impossible => k_is)
      (case k_impossible => k_is)
      (case a_common_divisor => k_is)
      (case l_common_divisor => k_is)
      (case c_common_divisor => k_is)
      (case k_common_divisor => k_is)
      (case a_divided => k_is)
      (case l_divided => k_is)
      (case c_divided => k_is)
      (case k_divided => k_is)
      (case a_reduced_inequality => k_is)
      (case l_reduced_inequality => k_is)
      (case c_reduced_inequality => k_is)
      (case k_reduced_inequality => k_is)
      (case a_reduced_equation => k_is)
      (case l_reduced_equation => k_is)
      (case c_reduced_equation => k_is)
      (case k_reduced_equation => k_is)
      (case a_reduced_multiple => k_is)
      (case l_reduced_multiple => k_is)
      (case c_reduced_multiple => k_is)
      (case k_reduced_multiple => k_is)
      (case a_reduced_constraint => k_is)
      (case l_reduced_constraint => k_is)
      (case c_reduced_constraint => k_is)
      (case k_reduced_constraint => k_is)
      (case a_reduced_rows => k_is)
      (case l_reduced_rows => k_is)
      (case c_reduced_rows => k_is)
      (case k_reduced_rows => k_is)
      (case a_System___init__ => k_is)
      (case i_System___init__ => k_is)
      (case l_System___init__ => k_is)
      (case c_System___init__ => k_is)
      (case k_System___init__ => k_is)
      (case a_System_is_impossible => k_is)
      (case g_System_is_impossible => k_is)
      (case t_System_is_impossible => k_is)
      (case r_System_is_impossible => k_is)
      (case l_System_is_impossible => k_is)
      (case c_System_is_impossible => k_is)
      (case k_System_is_impossible => k_is)
      (case a_System_reduced => k_is)
      (case i_System_reduced => k_is)
      (case l_System_reduced => k_is)
      (case c_System_reduced => k_is)
      (case k_System_reduced => k_is)
      (case a_System___add__ => k_is)
      (case i_System___add__ => k_is)
      (case l_System___add__ => k_is)
      (case c_System___add__ => k_is)
      (case k_System___add__ => k_is)
      (case a_System___eq__ => k_is)
      (case i_System___eq__ => k_is)
      (case l_System___eq__ => k_is)
      (case c_System___eq__ => k_is)
      (case k_System___eq__ => k_is)
      (case a_System_weight => k_is)
      (case g_System_weight => k_is)
      (case t_System_weight => k_is)
      (case r_System_weight => k_is)
      (case l_System_weight => k_is)
      (case c_System_weight => k_is)
      (case k_System_weight => k_is)
      (case a_add => k_is)
      (case l_add => k_is)
      (case c_add => k_is)
      (case k_add => k_is)
      (case a_multiply => k_is)
      (case l_multiply => k_is)
      (case c_multiply => k_is)
      (case k_multiply => k_is)
      (case a_difference => k_is)
      (case l_difference => k_is)
      (case c_difference => k_is)
      (case k_difference => k_is)
      (case a_with_constant_added => k_is)
      (case l_with_constant_added => k_is)
      (case c_with_constant_added => k_is)
      (case k_with_constant_added => k_is)
      (case a_without => k_is)
      (case l_without => k_is)
      (case c_without => k_is)
      (case k_without => k_is)
      (case a_changed => k_is)
      (case l_changed => k_is)
      (case c_changed => k_is)
      (case k_changed => k_is)
      (case a_common_multiple => k_is)
      (case l_common_multiple => k_is)
      (case c_common_multiple => k_is)
      (case k_common_multiple => k_is)
      (case a_Elimination_rule_for => k_is)
      (case i_Elimination_rule_for => k_is)
      (case l_Elimination_rule_for => k_is)
      (case c_Elimination_rule_for => k_is)
      (case k_Elimination_rule_for => k_is)
      (case a_Elimination_pivots_for => k_is)
      (case i_Elimination_pivots_for => k_is)
      (case l_Elimination_pivots_for => k_is)
      (case c_Elimination_pivots_for => k_is)
      (case k_Elimination_pivots_for => k_is)
      (case a_Elimination___init__ => k_is)
      (case i_Elimination___init__ => k_is)
      (case l_Elimination___init__ => k_is)
      (case c_Elimination___init__ => k_is)
      (case k_Elimination___init__ => k_is)
      (case a_Elimination_count_cases => k_is)
      (case i_Elimination_count_cases => k_is)
      (case l_Elimination_count_cases => k_is)
      (case c_Elimination_count_cases => k_is)
      (case k_Elimination_count_cases => k_is)
      (case a_Elimination_count_joined => k_is)
      (case i_Elimination_count_joined => k_is)
      (case l_Elimination_count_joined => k_is)
      (case c_Elimination_count_joined => k_is)
      (case k_Elimination_count_joined => k_is)
      (case a_Elimination_joined_rows => k_is)
      (case i_Elimination_joined_rows => k_is)
      (case l_Elimination_joined_rows => k_is)
      (case c_Elimination_joined_rows => k_is)
      (case k_Elimination_joined_rows => k_is)
      (case a_Elimination_put_in => k_is)
      (case i_Elimination_put_in => k_is)
      (case l_Elimination_put_in => k_is)
      (case c_Elimination_put_in => k_is)
      (case k_Elimination_put_in => k_is)
      (case a_Elimination_equation_at => k_is)
      (case i_Elimination_equation_at => k_is)
      (case l_Elimination_equation_at => k_is)
      (case c_Elimination_equation_at => k_is)
      (case k_Elimination_equation_at => k_is)
      (case a_Elimination_solved_rows => k_is)
      (case i_Elimination_solved_rows => k_is)
      (case l_Elimination_solved_rows => k_is)
      (case c_Elimination_solved_rows => k_is)
      (case k_Elimination_solved_rows => k_is)
      (case a_Elimination_case_at => k_is)
      (case i_Elimination_case_at => k_is)
      (case l_Elimination_case_at => k_is)
      (case c_Elimination_case_at => k_is)
      (case k_Elimination_case_at => k_is)
      (case a_cases => k_is)
      (case l_cases => k_is)
      (case c_cases => k_is)
      (case k_cases => k_is)
      (case a_case_count => k_is)
      (case l_case_count => k_is)
      (case c_case_count => k_is)
      (case k_case_count => k_is)
      (case a_is_multiplier => k_is)
      (case l_is_multiplier => k_is)
      (case c_is_multiplier => k_is)
      (case k_is_multiplier => k_is)
      (case a_are_multipliers => k_is)
      (case l_are_multipliers => k_is)
      (case c_are_multipliers => k_is)
      (case k_are_multipliers => k_is)
      (case a_added => k_is)
      (case l_added => k_is)
      (case c_added => k_is)
      (case k_added => k_is)
      (case a_split_by => k_is)
      (case l_split_by => k_is)
      (case c_split_by => k_is)
      (case k_split_by => k_is)
      (case a_closed => k_is)
      (case l_closed => k_is)
      (case c_closed => k_is)
      (case k_closed => k_is)
      (case a_check_case_counts => k_is)
      (case l_check_case_counts => k_is)
      (case c_check_case_counts => k_is)
      (case k_check_case_counts => k_is)
      (case a_split_into_cases => k_is)
      (case l_split_into_cases => k_is)
      (case c_split_into_cases => k_is)
      (case k_split_into_cases => k_is)
      (case a_made_by => k_is)
      (case l_made_by => k_is)
      (case c_made_by => k_is)
      (case k_made_by => k_is)
      (case a_check_left => k_is)
      (case l_check_left => k_is)
      (case c_check_left => k_is)
      (case k_check_left => k_is)
      (case a_check_numbers => k_is)
      (case l_check_numbers => k_is)
      (case c_check_numbers => k_is)
      (case k_check_numbers => k_is)
      (case a_left_behind => k_is)
      (case l_left_behind => k_is)
      (case c_left_behind => k_is)
      (case k_left_behind => k_is)
      (case a_remaining => k_is)
      (case l_remaining => k_is)
      (case c_remaining => k_is)
      (case k_remaining => k_is)
      (case a_apply_step => k_is)
      (case l_apply_step => k_is)
      (case c_apply_step => k_is)
      (case k_apply_step => k_is)
      (case a_law_cell => k_is)
      (case l_law_cell => k_is)
      (case c_law_cell => k_is)
      (case k_law_cell => k_is)
      (case a_law_draws => k_is)
      (case l_law_draws => k_is)
      (case c_law_draws => k_is)
      (case k_law_draws => k_is)
      (case a_law_outcome => k_is)
      (case l_law_outcome => k_is)
      (case c_law_outcome => k_is)
      (case k_law_outcome => k_is)
      (case a_law_cases => k_is)
      (case l_law_cases => k_is)
      (case c_law_cases => k_is)
      (case k_law_cases => k_is)
      (case a_law_great => k_is)
      (case l_law_great => k_is)
      (case c_law_great => k_is)
      (case k_law_great => k_is)
      (case a_law_wide => k_is)
      (case l_law_wide => k_is)
      (case c_law_wide => k_is)
      (case k_law_wide => k_is)
      (case a_law_weighs => k_is)
      (case l_law_weighs => k_is)
      (case c_law_weighs => k_is)
      (case k_law_weighs => k_is)
      (case a_law => k_is)
      (case l_law => k_is)
      (case c_law => k_is)
      (case k_law => k_is)
      (case d1_System => k_is)
      (case d2_System => k_is)
      (case d3_System => k_is)
      (case d4_System => k_is)
      (case d5_System => k_is)
      (case z_isinstance => k_is)
      (case z_bool => k_is)
      (case z_int => k_is)
      (case z_all => k_is)
      (case z_len => k_is)
      (case z_tuple => k_is)
      (case z_min => k_is)
      (case z_zip => k_is)
      (case z_sum => k_is)
      (case z_max => k_is)
      (case z_abs => k_is)
      (case z_range => k_is)
      (case z_any => k_is)
      (case z_enumerate => k_is)
      (case u_gcd => k_is)
      (case u_lcm => k_is)
      (case m_MOST_JOINED => k_is)
      (case m_MOST_CASES => k_is)
      (case m_MOST_WEIGHT => k_is)
      (case m_MOST_VARIABLES => k_is)
      (case m_GREATEST => k_is)
    subst e
    exact ⟨A.d_law, hb, fun base _ _ => K60.ok_law T⟩
