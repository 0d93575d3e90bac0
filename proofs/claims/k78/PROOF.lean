import PyProof.Rows.All
import Wide.All
import OpenK.AllK
import Wide.FinOn
import HandS.ForMost
import HandS.Zip
import HandS.Wide
import HandS.TupAny
import HandS.IsInst
import HandS.EndBits
import HandS.Walk
import HandS.More
import HandS.RaiseMore
import HandS.SetIn
import KE.KExcSuper
import HandS.Nested
import HandS.NestedK
import HandS.ExcInit
import HandS.HotCalls
import HandS.ExcIs
import HandS.ExcField
import HandS.FStr
import KE.KExcIs
import HandS.TupMul
import HandS.Gcd
import KE.KeyNested
import KE.DataMinMax
import HandS.SetKeys
import HandS.Property
import HandS.Codes
import KE.KOpsOwn
import HandS.OwnEq
import HandS.Zip0
import PyProof.Draws
import KE.GoesZip
import HandS.ExcOwn
import HandS.ExcCtx
import KE.KMathG
import KE.KMathGC
import HandS.SortKw
import HandS.CallLocal
import KE.KExcHand
import KE.KTryMore
import PyProof.TupleIter
import PyProof.Rules3
import HandS.Defaults
import PySem.Challenge.RW_loopworks_k78_what_is_never_given_up
set_option Elab.async false
set_option linter.all false
set_option maxRecDepth 100000
set_option maxHeartbeats 4000000
namespace Bs
open PySem L2

/-! ### loops as one word -/
def Loop (J : It) (g : TG) (tb : TS) (D : Ends) (σ : St) (H1 : Hp) : Prop := ∃ W : Nat → Nat → St → Hp → Prop, (∃ m, W 0 m σ H1) ∧ ∀ i m σ H, W i m σ H →
  (J.stop i H ∧ D.nx σ H) ∨ (J.go i H ∧ ∃ N : St → Hp → Prop, (∀ σ' H', N σ' H' → ∃ m', m' < m ∧ W (i + 1) m' σ' H') ∧ ∀ x H', J.yld i H x H' → g x σ H' fun σ2 H2 => tb { D with nx := N, ct := N, bk := D.nx } σ2 H2)
theorem for_eq (wi : TI) (g : TG) (tb : TS) (D : Ends) (σ : St) (H : Hp) : tFor wi g tb D σ H = wi σ H fun J H1 => Loop J g tb D σ H1 := rfl
def LoopC (J : It) (g : TG) (tt : TT) (te : TE) (vs : List Nat) (σ : St) (H1 : Hp) (D : Addr) (Qd : Hp → Prop) : Prop := ∃ W : Nat → Nat → Hp → Prop, (∃ m, W 0 m (upd H1 D (.lst []))) ∧ ∀ i m H, W i m H →
  (J.stop i H ∧ Qd H) ∨ (J.go i H ∧ ∃ Nx : Hp → Prop, (∀ H', Nx H' → ∃ m', m' < m ∧ W (i + 1) m' H') ∧ ∀ x H', J.yld i H x H' → g x (wipe σ vs) H' fun σ2 H2 => wipe σ2 vs = wipe σ vs ∧ tt σ2 H2 fun b H3 =>
    if b = true then te σ2 H3 fun y H4 => ∃ acc, H4 D = some (.lst acc) ∧ acc.length < sizeLine ∧ Nx (upd H4 D (.lst (acc ++ [y]))) else Nx H3)
theorem lc_eq (wi : TI) (g : TG) (tt : TT) (te : TE) (vs : List Nat) (σ : St) (H : Hp) (Q : VK) : tLc wi g tt te vs σ H Q = wi σ H fun J H1 => ∀ D, H1 D = none → LoopC J g tt te vs σ H1 D (fun H => Q (.ref D) H) := rfl
def LoopW (c : TT) (tb : TS) (D : Ends) (σ : St) (H : Hp) : Prop := tWhile c tb D σ H
theorem while_eq (c : TT) (tb : TS) (D : Ends) (σ : St) (H : Hp) : tWhile c tb D σ H = LoopW c tb D σ H := rfl

theorem test_eq (t : TE) (σ : St) (H : Hp) (Q : Bool → Hp → Prop) : tTest t σ H Q = t σ H fun x H' => ∃ k, x = .bl k ∧ Q k H' := rfl
theorem ex_bl {b : Bool} {Q : Bool → Prop} : (∃ k, V.bl b = .bl k ∧ Q k) = Q b := propext ⟨fun ⟨k, e, q⟩ => by cases e; exact q, fun q => ⟨b, rfl, q⟩⟩
theorem ex_int {i : Int} {Q : Int → Prop} : (∃ k, V.int i = .int k ∧ Q k) = Q i := propext ⟨fun ⟨k, e, q⟩ => by cases e; exact q, fun q => ⟨i, rfl, q⟩⟩

theorem cxK {CX : CXT} {P : Program} {w : World} {K : PySem.W.Frag} {mg : Str → Option Value} {base : Heap} {N : List Str} {qual : Str} {scope : Scope} {f : Addr} {cd : Value} {A : Around} {outer : List Env} {s : Shared} {H : Hp} {E : XK} : (cxOf CX P w K mg base N qual scope f cd A outer s H E).K = K := rfl
/-! ### sizes -/
theorem smallM {n : Nat} (h : n ≤ 1000000) : n < sizeLine := Nat.lt_of_le_of_lt h (by decide)
def Sz (n : Nat) (x : Int) : Prop := x.natAbs < 2 ^ n
theorem Sz.mono {a b : Nat} {x : Int} (h : Sz a x) (l : a ≤ b) : Sz b x := Nat.lt_of_lt_of_le h (Nat.pow_le_pow_right (by decide) l)
theorem Sz.add {a : Nat} {x y : Int} (h : Sz a x) (k : Sz a y) : Sz (a + 1) (x + y) := by
  unfold Sz at *
  rw [Nat.pow_succ]
  omega
theorem Sz.sub {a : Nat} {x y : Int} (h : Sz a x) (k : Sz a y) : Sz (a + 1) (x - y) := by
  unfold Sz at *
  rw [Nat.pow_succ]
  omega
theorem Sz.mul {a b : Nat} {x y : Int} (h : Sz a x) (k : Sz b y) : Sz (a + b) (x * y) := wide_lt h k
theorem Sz.zero (a : Nat) : Sz a 0 := Nat.pow_pos (by decide)
theorem Sz.bits {n : Int} {b : Nat} (h : Builtin.Int.intBits n ≤ b) : Sz (b + 1) n := by
  unfold Sz
  unfold Builtin.Int.intBits at h
  by_cases e : n.natAbs = 0
  · rw [e]; exact Nat.pow_pos (by decide)
  · have l : n.natAbs < 2 ^ (n.natAbs.log2 + 1) := Nat.lt_log2_self
    refine Nat.lt_of_lt_of_le l (Nat.pow_le_pow_right (by decide) ?_)
    have en : (n == 0) = false := by
      rw [beq_eq_false_iff_ne]
      intro z
      subst z
      exact e rfl
    rw [en] at h
    have h' : n.natAbs.log2 + 1 ≤ b := h
    omega
def CMulX (i j : Int) : Prop := ∃ a b : Nat, Sz a i ∧ Sz b j ∧ a + b ≤ 100000000
theorem log2_le_of {n a : Nat} (h : n < 2 ^ a) : n.log2 ≤ a := by
  by_cases e : n = 0
  · subst e; exact Nat.zero_le _
  · exact Nat.le_of_lt ((Nat.log2_lt e).mpr h)
theorem CMulX.ok {i j : Int} (h : CMulX i j) : IntMulOk i j := by
  obtain ⟨a, b, ha, hb, hab⟩ := h
  have q : ∀ x : Int, Builtin.Int.intBits x ≤ x.natAbs.log2 + 1 := fun x => by
    unfold Builtin.Int.intBits
    split <;> omega
  have h1 := q i
  have h2 := q j
  have h3 := log2_le_of ha
  have h4 := log2_le_of hb
  have e : bitsLine = 134217728 := by decide
  unfold IntMulOk
  intro z
  rw [Bool.and_eq_true] at z
  have z2 := z.2
  unfold Builtin.Int.intTooBig at z2
  have z3 := of_decide_eq_true z2
  rw [e] at z3
  omega
theorem op_mulX {X : Cx} : OpR X (binaryOp .Mult) (rI CMulX fun i j => .int (i * j)) := opI fun _ _ _ _ _ _ _ hc q => PyProof.Rows.mul_int q hc.ok
/-! ### loops and comprehensions over a walk -/
theorem loop_it {J : It} {n : Nat} {G : Hp → Prop} {Y : Nat → Hp → V → Hp → Prop} (w : Walk J n G Y) {g : TG} {tb : TS} {D : Ends} {σ : St} {H : Hp} (Pv : Nat → St → Hp → Prop) (h0 : Pv 0 σ H) (hG : ∀ i σ H, i ≤ n → Pv i σ H → G H)
    (hs : ∀ i x σ H H', i < n → Pv i σ H → Y i H x H' → g x σ H' fun σ2 H2 => tb { D with nx := Pv (i + 1), ct := Pv (i + 1), bk := D.nx } σ2 H2) (hd : ∀ σ H, Pv n σ H → D.nx σ H) : Loop J g tb D σ H := for_it w Pv h0 hG hs hd
theorem loopc_it {J : It} {n : Nat} {G : Hp → Prop} {Y : Nat → Hp → V → Hp → Prop} (w : Walk J n G Y) {g : TG} {tt : TT} {te : TE} {vs : List Nat} {σ : St} {H1 : Hp} {D : Addr} {Qd : Hp → Prop} (Pv : Nat → Hp → Prop) (h0 : Pv 0 (upd H1 D (.lst []))) (hG : ∀ i H, i ≤ n → Pv i H → G H)
    (hs : ∀ i x H H', i < n → Pv i H → Y i H x H' → g x (wipe σ vs) H' fun σ2 H2 => wipe σ2 vs = wipe σ vs ∧ tt σ2 H2 fun b H3 =>
      if b = true then te σ2 H3 fun y H4 => ∃ acc, H4 D = some (.lst acc) ∧ acc.length < sizeLine ∧ Pv (i + 1) (upd H4 D (.lst (acc ++ [y]))) else Pv (i + 1) H3) (hd : ∀ H, Pv n H → Qd H) : LoopC J g tt te vs σ H1 D Qd := lc_it w Pv h0 hG hs hd
theorem same_upd {H : Hp} {p : Addr} {o : HO} (h : H p = none) : Same H (upd H p o) := fun b x e => by
  rw [upd_ne (ne_of_none e h)]
  exact e
theorem same_upd2 {H H' : Hp} {p : Addr} {o : HO} (e : Same H H') (h : H p = none) : Same H (upd H' p o) := fun b x q => by
  rw [upd_ne (ne_of_none q h)]
  exact e _ _ q
/-- [e for ..], without a test, whose element is told by the turn -/
theorem lc_pure {J : It} {n : Nat} {G : Hp → Prop} {Y : Nat → Hp → V → Hp → Prop} (w : Walk J n G Y) {g : TG} {te : TE} {vs : List Nat} {σ : St} {H1 : Hp} {D : Addr} {Qd : Hp → Prop} (f : Nat → V) (hD : H1 D = none) (hn : n ≤ 1000000)
    (hG : ∀ H', Same H1 H' → G H') (hY : ∀ i H x H', Y i H x H' → Same H H')
    (hs : ∀ i x H H' (R : VK), i < n → Same H1 H' → Y i H x H' → (∀ H4, Same H' H4 → R (f i) H4) → g x (wipe σ vs) H' fun σ2 H2 => wipe σ2 vs = wipe σ vs ∧ te σ2 H2 R)
    (hd : ∀ H', Same H1 H' → H' D = some (.lst ((List.range n).map f)) → Qd H') : LoopC J g tYes te vs σ H1 D Qd := by
  refine loopc_it w (fun i H => Same H1 H ∧ H D = some (.lst ((List.range i).map f))) ⟨same_upd hD, upd_same⟩ (fun i H _ p => hG H p.1) (fun i x H H' hi p y => ?_) (fun H p => hd H p.1 p.2)
  have hYs := hY _ _ _ _ y
  have q := hs i x H H' (fun y H4 => ∃ acc, H4 D = some (.lst acc) ∧ acc.length < sizeLine ∧ (Same H1 (upd H4 D (.lst (acc ++ [y]))) ∧ upd H4 D (.lst (acc ++ [y])) D = some (.lst ((List.range (i + 1)).map f)))) hi (p.1.trans hYs) y (fun H4 s4 => ?_)
  · exact q
  · refine ⟨_, s4 _ _ (hYs _ _ p.2), ?_, same_upd2 (p.1.trans (hYs.trans s4)) hD, ?_⟩
    · rw [List.length_map, List.length_range]
      exact smallM (by omega)
    · rw [upd_same, List.range_succ, List.map_append]
      rfl
theorem range_getD {α : Type} (d : α) : ∀ ys : List α, (List.range ys.length).map (fun i => ys[i]?.getD d) = ys := fun ys => by
  refine List.ext_getElem? fun i => ?_
  rw [List.getElem?_map]
  by_cases h : i < ys.length
  · rw [List.getElem?_range h, List.getElem?_eq_getElem h]
    simp [h]
  · rw [List.getElem?_eq_none (by rw [List.length_range]; omega), List.getElem?_eq_none (by omega)]
    rfl
/-- the same by the list that comes out -/
theorem lc_ys {J : It} {n : Nat} {G : Hp → Prop} {Y : Nat → Hp → V → Hp → Prop} (w : Walk J n G Y) {g : TG} {te : TE} {vs : List Nat} {σ : St} {H1 : Hp} {D : Addr} {Qd : Hp → Prop} (ys : List V) (hD : H1 D = none) (hn : n ≤ 1000000) (hl : ys.length = n)
    (hG : ∀ H', Same H1 H' → G H') (hY : ∀ i H x H', Y i H x H' → Same H H')
    (hs : ∀ i x y H H' (R : VK), i < n → ys[i]? = some y → Same H1 H' → Y i H x H' → (∀ H4, Same H' H4 → R y H4) → g x (wipe σ vs) H' fun σ2 H2 => wipe σ2 vs = wipe σ vs ∧ te σ2 H2 R)
    (hd : ∀ H', Same H1 H' → H' D = some (.lst ys) → Qd H') : LoopC J g tYes te vs σ H1 D Qd := by
  refine lc_pure w (fun i => ys[i]?.getD .non) hD hn hG hY (fun i x H H' R hi s1 y k => ?_) (fun H' s' e => hd H' s' ?_)
  · have hy : ys[i]? = some (ys[i]?.getD .non) := by
      rw [List.getElem?_eq_getElem (by omega)]
      rfl
    exact hs i x _ H H' R hi hy s1 y k
  · rw [← hl, range_getD] at e
    exact e
theorem walk_zipT {K : PySem.W.Frag} {a b : Addr} {xs ys : List V} {n : Nat} (hn : n = min xs.length ys.length) : Walk (RZ.ItzT K a b) n (fun H => SqT K H a xs ∧ SqT K H b ys) (YPair (fun i => xs[i]?) (fun i => ys[i]?)) := by
  subst hn
  refine ⟨fun i _ hi q => ?_, fun _ q => ⟨xs, ys, q.1, q.2, by omega⟩, fun i H v H' _ q y => ?_⟩
  · have h1 : i < xs.length := by omega
    have h2 : i < ys.length := by omega
    exact ⟨xs, ys, xs[i], ys[i], q.1, q.2, by simp [h1], by simp [h2]⟩
  · obtain ⟨T, x, z, h1, h2, h3, h4, h5⟩ := y
    exact ⟨T, x, z, h1, h2, h3, h4 xs q.1, h5 ys q.2⟩
theorem ypair_same {xs ys : Nat → Option V} : ∀ (i : Nat) (H : Hp) (x : V) (H' : Hp), YPair xs ys i H x H' → Same H H' := fun i H x H' ⟨T, _, _, _, n, e, _⟩ => by
  subst e
  exact same_upd n
theorem yat_same {xs : List V} : ∀ (i : Nat) (H : Hp) (x : V) (H' : Hp), YAt xs i H x H' → Same H H' := fun i H x H' ⟨e, _⟩ => by
  subst e
  exact Same.refl _
theorem yfn_same {f : Nat → V} : ∀ (i : Nat) (H : Hp) (x : V) (H' : Hp), YFn f i H x H' → Same H H' := fun i H x H' ⟨e, _⟩ => by
  subst e
  exact Same.refl _
theorem sameT {K : PySem.W.Frag} {H H' : Hp} {a : Addr} {xs : List V} (e : Same H H') (h : SqT K H a xs) : SqT K H' a xs := by
  rcases h with (h | ⟨o, h⟩) | h
  · exact .inl (.inl (e _ _ h))
  · exact .inl (.inr ⟨o, e _ _ h⟩)
  · exact .inr h
theorem scal_ii (a b : Int) : scal (.int a) (.int b) = true := rfl
theorem scal_ss (a b : Str) : scal (.str a) (.str b) = true := rfl
theorem scal_bb (a b : Bool) : scal (.bl a) (.bl b) = true := rfl
theorem dec_ii (a b : Int) : decide (V.int a = V.int b) = decide (a = b) := decide_eq_decide.mpr (by rw [V.int.injEq])
theorem dec_ss (a b : Str) : decide (V.str a = V.str b) = decide (a = b) := decide_eq_decide.mpr (by rw [V.str.injEq])
theorem dec_bb (a b : Bool) : decide (V.bl a = V.bl b) = decide (a = b) := decide_eq_decide.mpr (by rw [V.bl.injEq])
theorem walk_range0 {n : Nat} : Walk (Itr 0 n) n (fun _ => True) (fun i H x H' => H' = H ∧ x = V.int ((i : Nat) : Int)) :=
  ⟨fun _ _ hi _ => hi, fun _ _ => Nat.le_refl _, fun _ _ _ _ _ _ y => ⟨y.1, by rw [y.2, Int.zero_add]⟩⟩
theorem yat_at {xs : List V} {i : Nat} {H H' : Hp} {x : V} (y : YAt xs i H x H') : H' = H ∧ xs[i]? = some x := y
theorem isi {K : PySem.W.Frag} {H : Hp} {x : V} {a b : String} {r : Bool} {Q : VK} (ty : TyX K H x (.type a)) (hk : kitB a b = some r) (q : Q (.bl r) H) : rIsi K [x, .ty b] H Q :=
  ⟨x, .ty b, .type a, .type b, r, rfl, .ty b, ty, kit_ty hk, q⟩
theorem ty_int {K : PySem.W.Frag} {H : Hp} {i : Int} : TyX K H (.int i) (.type "int") := .base (.int i)
theorem ty_bl {K : PySem.W.Frag} {H : Hp} {i : Bool} : TyX K H (.bl i) (.type "bool") := .base (.bl i)
theorem ty_str {K : PySem.W.Frag} {H : Hp} {i : Str} : TyX K H (.str i) (.type "str") := .base (.str i)
theorem ty_tup {K : PySem.W.Frag} {H : Hp} {a : Addr} {xs : List V} (h : SqT K H a xs) : TyX K H (.ref a) (.type "tuple") := by
  rcases h with (h | ⟨o, h⟩) | ⟨o, _, _, h, c, _⟩
  · exact .base (.tup h)
  · exact .fTuple h
  · exact .kTuple h c
theorem ty_lst {K : PySem.W.Frag} {H : Hp} {a : Addr} {xs : List V} (h : SqL K H a xs) : TyX K H (.ref a) (.type "list") := by
  rcases h with (h | ⟨o, h⟩) | ⟨o, _, _, h, c, _⟩
  · exact .base (.lst h)
  · exact .base (.frz h)
  · exact .kList h c
theorem sqT_upd {K : PySem.W.Frag} {H : Hp} {p b : Addr} {o : HO} {xs ys : List V} (hp : H p = some (.lst xs)) (h : SqT K H b ys) : SqT K (upd H p o) b ys := by
  rcases h with (h | ⟨o, h⟩) | h
  · exact .inl (.inl (by rw [upd_ne (ne_of h hp (by intro z; cases z))]; exact h))
  · exact .inl (.inr ⟨o, by rw [upd_ne (ne_of h hp (by intro z; cases z))]; exact h⟩)
  · exact .inr h
end Bs
namespace Bs
open PySem L2 TL

/-! ### texts -/
theorem call_str_any {X : Cx} : CallR X (.type "str") (fun xs H Q => (∃ i, xs = [.int i] ∧ i.natAbs.log2 < 1920 ∧ Q (.str (toString i)) H) ∨ ∃ a, xs = [.str a] ∧ Q (.str a) H) := by
  intro pins s σ H xs us Q I r h
  rcases h with h | h
  · exact call_str_int pins s σ H xs us Q I r h
  · exact SkE.call_str_str pins s σ H xs us Q I r h
theorem call_intI {X : Cx} : CallR X (.type "int") (fun xs H Q => ∃ i, xs = [.int i] ∧ Q (.int i) H) := by
  intro pins s σ H xs us Q I r h
  exact call_int1 pins s σ H xs us Q I r (.inl h)
/-- z repeated n times -/
def rep (z : Str) (n : Nat) : Str := ⟨((List.replicate n (tl z)).flatten).toArray⟩
theorem tl_rep (z : Str) (n : Nat) : tl (rep z n) = (List.replicate n (tl z)).flatten := rfl
theorem rep_len (z : Str) (n : Nat) : (rep z n).length = z.length * n := by
  rw [len_tl, len_tl, tl_rep, List.length_flatten, List.map_replicate]
  generalize (tl z).length = k
  induction n with
  | zero => rfl
  | succ n ih => rw [List.replicate_succ, List.sum_cons, ih, Nat.mul_succ]; omega
theorem foldl_app (l : List (Array Nat)) : ∀ a : Array Nat, (l.foldl (· ++ ·) a).toList = a.toList ++ (l.map Array.toList).flatten := by
  induction l with
  | nil => intro a; simp
  | cons x r ih => intro a; simp [ih, List.append_assoc]
theorem mul_rep (z : Str) (n : Nat) : Txt.mul z (n : Int) = rep z n := by
  refine ext_tl ?_
  rw [tl_rep]
  unfold Txt.mul
  by_cases h1 : ((n : Nat) : Int) < 1
  · have e : n = 0 := by omega
    subst e
    rw [if_pos h1]
    rfl
  · rw [if_neg h1]
    split
    · rename_i h2
      rw [Bool.or_eq_true, beq_iff_eq, beq_iff_eq] at h2
      rcases h2 with h2 | h2
      · have e : n = 1 := by omega
        subst e
        simp
      · have e : tl z = [] := (len0_tl z).mp h2
        rw [e]
        simp
    · show (List.foldl (· ++ ·) #[] (List.replicate ((n : Int)).toNat z.cps)).toList = _
      rw [foldl_app, Int.toNat_natCast, List.map_replicate]
      rfl
def rRepS : R2 := fun x y H Q => ∃ (z : Str) (n : Nat), x = .str z ∧ y = .int (n : Int) ∧ z.length ≤ 1000 ∧ n ≤ 1000 ∧ Q (.str (rep z n)) H
theorem op_repS {X : Cx} : OpR X (binaryOp .Mult) rRepS := by
  intro pins s σ H x y v u Q I rx ry h
  obtain ⟨z, n, rfl, rfl, hz, hn, q⟩ := h
  obtain ⟨t, rfl⟩ := rx
  obtain ⟨t', rfl⟩ := ry
  refine SB.mul (n := (n : Int)) ⟨?_, fun h1 _ => ?_, fun h1 _ => ?_⟩ fun t1 k => ⟨.str (rep z n), H, I.tok k, ⟨t1, by rw [mul_rep]⟩, q⟩
  · rw [Bool.or_eq_false_iff]
    constructor <;> rw [decide_eq_false_iff_not] <;> omega
  · have hn1 : 1 ≤ (n : Int) := by omega
    have h2 : (1000 : Int) ≤ (2 ^ 63 - 1) / (n : Int) := by
      rw [Int.le_ediv_iff_mul_le (by omega)]
      omega
    omega
  · show decide (z.length * ((n : Int)).toNat > sizeLine) = false
    have hm : z.length * n ≤ 1000 * 1000 := Nat.mul_le_mul hz hn
    rw [Int.toNat_natCast]
    exact decide_eq_false (by have : (1000 * 1000 : Nat) < sizeLine := by decide
                              omega)
theorem len_app (x y : Str) : (x ++ y).length = x.length + y.length := Str.length_append x y
/-- the texts of a list, one behind the other -/
def flat (ps : List Str) : Str := Str.join Str.empty ps
theorem tl_flat (ps : List Str) : tl (flat ps) = (ps.map tl).flatten := by
  unfold flat
  rw [tl_join]
  show joinL [] (ps.map tl) = _
  generalize ps.map tl = l
  induction l with
  | nil => rfl
  | cons x r ih =>
    cases r with
    | nil => simp [joinL]
    | cons y r => rw [joinL, ih]; simp
theorem flat_snoc (ps : List Str) (x : Str) : flat (ps ++ [x]) = flat ps ++ x := by
  refine ext_tl ?_
  rw [tl_append, tl_flat, tl_flat]
  simp
theorem flat_len (ps : List Str) : (ps.map (·.length)).sum = (flat ps).length := by
  rw [len_tl, tl_flat, List.length_flatten, List.map_map]
  congr 1
theorem join_flat (e : Str) (h : tl e = []) (ps : List Str) : Txt.join e ps = flat ps := by
  rw [join_eq]
  refine ext_tl ?_
  rw [tl_join, tl_flat, h]
  generalize ps.map tl = l
  induction l with
  | nil => rfl
  | cons x r ih =>
    cases r with
    | nil => simp [joinL]
    | cons y r => rw [joinL, ih]; simp

theorem cut_take (z : Str) (n : Nat) : tl (cutS z none (some (n : Int))) = (tl z).take n := by
  show ((tl z).drop (HT.sIx z.length 0 none)).take (HT.sIx z.length z.length (some (n : Int)) - HT.sIx z.length 0 none) = _
  rw [HT.sIx_none, HT.sIx_nat, List.drop_zero, Nat.sub_zero, len_tl]
  by_cases h : n ≤ (tl z).length
  · rw [Nat.min_eq_left h]
  · rw [Nat.min_eq_right (by omega), List.take_of_length_le (Nat.le_refl _), List.take_of_length_le (by omega)]
theorem cut_drop (z : Str) (n : Nat) : tl (cutS z (some (n : Int)) none) = (tl z).drop n := by
  show ((tl z).drop (HT.sIx z.length 0 (some (n : Int)))).take (HT.sIx z.length z.length none - HT.sIx z.length 0 (some (n : Int))) = _
  rw [HT.sIx_none, HT.sIx_nat, len_tl]
  by_cases h : n ≤ (tl z).length
  · rw [Nat.min_eq_left h, List.take_of_length_le (by rw [List.length_drop]; omega)]
  · rw [Nat.min_eq_right (by omega), Nat.sub_self, List.take_zero, List.drop_eq_nil_of_le (by omega)]
theorem tl1 (c : Nat) : tl ⟨#[c]⟩ = [c] := rfl
theorem sum_ones {α : Type} : ∀ l : List α, (l.map fun _ => 1).sum = l.length
  | [] => rfl
  | x :: l => by
    rw [List.map_cons, List.sum_cons, sum_ones l, List.length_cons]
    omega
theorem sgn_inj {a b : Nat} (h : (⟨#[a]⟩ : Str) = ⟨#[b]⟩) : a = b := by
  have e := congrArg tl h
  rw [tl1, tl1] at e
  exact List.head_eq_of_cons_eq e
theorem sgn_eq (a b : Nat) : ((⟨#[a]⟩ : Str) = ⟨#[b]⟩) = (a = b) := propext ⟨sgn_inj, fun h => by rw [h]⟩
/-! ### a while, by a word with its measure -/
def Turn (W : Nat → St → Hp → Prop) (m : Nat) (tb : TS) (D : Ends) (σ : St) (H : Hp) : Prop := ∃ N : St → Hp → Prop, (∀ σ' H', N σ' H' → ∃ m', m' < m ∧ W m' σ' H') ∧ tb { D with nx := N, ct := N, bk := D.nx } σ H
theorem turn_of {W : Nat → St → Hp → Prop} {m : Nat} {tb : TS} {D : Ends} {σ : St} {H : Hp} (h : tb { D with nx := fun σ' H' => ∃ m', m' < m ∧ W m' σ' H', ct := fun σ' H' => ∃ m', m' < m ∧ W m' σ' H', bk := D.nx } σ H) : Turn W m tb D σ H := ⟨_, fun _ _ h => h, h⟩
theorem loopw {c : TT} {tb : TS} {D : Ends} {σ : St} {H : Hp} (W : Nat → St → Hp → Prop) (m : Nat) (h0 : W m σ H) (hs : ∀ m σ H, W m σ H → c σ H fun b H1 => if b = true then Turn W m tb D σ H1 else D.nx σ H1) : LoopW c tb D σ H := ⟨W, ⟨m, h0⟩, hs⟩
theorem cut_mid (z : Str) (i k : Nat) : tl (cutS z (some (i : Int)) (some ((i : Int) + (k : Int)))) = ((tl z).drop i).take k := by
  have e : (i : Int) + (k : Int) = ((i + k : Nat) : Int) := by omega
  rw [e]
  show ((tl z).drop (HT.sIx z.length 0 (some (i : Int)))).take (HT.sIx z.length z.length (some ((i + k : Nat) : Int)) - HT.sIx z.length 0 (some (i : Int))) = _
  rw [HT.sIx_nat, HT.sIx_nat, len_tl]
  by_cases h : i ≤ (tl z).length
  · rw [Nat.min_eq_left h]
    by_cases h2 : i + k ≤ (tl z).length
    · rw [Nat.min_eq_left h2, Nat.add_sub_cancel_left]
    · rw [Nat.min_eq_right (by omega)]
      rw [List.take_of_length_le (by rw [List.length_drop]; omega), List.take_of_length_le (by rw [List.length_drop]; omega)]
  · rw [Nat.min_eq_right (by omega), Nat.min_eq_right (by omega), Nat.sub_self, List.take_zero, List.drop_eq_nil_of_le (by omega), List.take_nil]
/-! ### a list's item at an open place -/
theorem atI_in {α : Type} {xs : List α} {i : Int} (h0 : 0 ≤ i) (h1 : i < xs.length) : ∃ x, atI xs i = some x ∧ x ∈ xs := by
  obtain ⟨n, rfl⟩ : ∃ n : Nat, i = (n : Int) := ⟨i.toNat, by omega⟩
  have hn : n < xs.length := by omega
  exact ⟨xs[n], atI_nat (List.getElem?_eq_getElem hn), List.getElem_mem hn⟩

/-! ### v in a list of texts -/
theorem inV_str (v : Str) : ∀ l : List Str, inV (.str v) (l.map V.str) = decide (v ∈ l)
  | [] => rfl
  | x :: l => by
    show (eqV (.str x) (.str v) || inV (.str v) (l.map V.str)) = _
    rw [inV_str v l]
    show (decide (x = v) || _) = _
    rw [← Bool.decide_or]
    refine decide_eq_decide.mpr ?_
    rw [List.mem_cons]
    constructor
    · rintro (h | h)
      · exact .inl h.symm
      · exact .inr h
    · rintro (h | h)
      · exact .inl h.symm
      · exact .inr h
theorem flat_strs : ∀ zs : List Str, (zs.map V.str).all flatV = true
  | [] => rfl
  | _ :: zs => flat_strs zs
theorem rin {K : PySem.W.Frag} {H : Hp} {p : Addr} (zs : List Str) {v : Str} {Q : VK} (h : SqL K H p (zs.map V.str) ∨ SqT K H p (zs.map V.str)) (q : Q (.bl (decide (v ∈ zs))) H) : rIn K false (.str v) (.ref p) H Q :=
  ⟨p, zs.map V.str, rfl, h, rfl, flat_strs zs, by rw [inV_str]; exact q⟩
theorem rnin {K : PySem.W.Frag} {H : Hp} {p : Addr} (zs : List Str) {v : Str} {Q : VK} (h : SqL K H p (zs.map V.str) ∨ SqT K H p (zs.map V.str)) (q : Q (.bl (!decide (v ∈ zs))) H) : rIn K true (.str v) (.ref p) H Q :=
  ⟨p, zs.map V.str, rfl, h, rfl, flat_strs zs, by rw [inV_str]; exact q⟩
/-! ### the law's stream of numbers: a list of two lists -/
structure Stm (H : Hp) (st d p : Addr) : Prop where
  at_ : H st = some (.lst [.ref d, .ref p])
  dg : ∃ ds : List Int, H d = some (.lst (ds.map V.int)) ∧ ds ≠ []
  pl : ∃ i : Int, H p = some (.lst [.int i])
  n1 : st ≠ p
  n2 : d ≠ p
/-- all but what stands at p is as it was -/
structure Stp (p : Addr) (H H' : Hp) : Prop where
  keep : ∀ b o, b ≠ p → H b = some o → H' b = some o
  pl : ∃ i : Int, H' p = some (.lst [.int i])
theorem Stp.trans {p : Addr} {H H1 H2 : Hp} (a : Stp p H H1) (b : Stp p H1 H2) : Stp p H H2 := ⟨fun c o n e => b.keep c o n (a.keep c o n e), b.pl⟩
theorem Stm.step {H H' : Hp} {st d p : Addr} (x : Stm H st d p) (e : Stp p H H') : Stm H' st d p :=
  ⟨e.keep _ _ x.n1 x.at_, let ⟨ds, h, n⟩ := x.dg; ⟨ds, e.keep _ _ x.n2 h, n⟩, e.pl, x.n1, x.n2⟩
theorem Stm.refl {H : Hp} {st d p : Addr} (x : Stm H st d p) : Stp p H H := ⟨fun _ _ _ e => e, x.pl⟩
theorem Stm.same {H H' : Hp} {st d p : Addr} (x : Stm H st d p) (e : Same H H') : Stp p H H' := ⟨fun b o _ h => e b o h, let ⟨i, h⟩ := x.pl; ⟨i, e _ _ h⟩⟩
theorem Stp.same {p : Addr} {H H1 H2 : Hp} (a : Stp p H H1) (e : Same H1 H2) : Stp p H H2 := ⟨fun b o n h => e _ _ (a.keep b o n h), let ⟨i, h⟩ := a.pl; ⟨i, e _ _ h⟩⟩
theorem Stp.tup {p : Addr} {H H' : Hp} {b : Addr} {xs : List V} (a : Stp p H H') {i : Int} (hp : H p = some (.lst [.int i])) (h : H b = some (.tup xs)) : H' b = some (.tup xs) :=
  a.keep b _ (ne_of h hp (by intro z; cases z)) h
theorem Stp.sqT {K : PySem.W.Frag} {p : Addr} {H H' : Hp} {b : Addr} {xs : List V} (a : Stp p H H') {i : Int} (hp : H p = some (.lst [.int i])) (h : SqT K H b xs) : SqT K H' b xs := by
  rcases h with (h | ⟨o, h⟩) | h
  · exact .inl (.inl (a.tup hp h))
  · exact .inl (.inr ⟨o, a.keep _ _ (ne_of h hp (by intro z; cases z)) h⟩)
  · exact .inr h
theorem Stp.free {p : Addr} {H H' : Hp} (a : Stp p H H') {b : Addr} (h : H' b = none) (n : b ≠ p) : H b = none := by
  cases e : H b with
  | none => rfl
  | some o =>
    have h2 := a.keep _ _ n e
    rw [h] at h2
    cases h2
theorem Stp.ne {p : Addr} {H H' : Hp} (a : Stp p H H') {b : Addr} (h : H' b = none) : b ≠ p := by
  obtain ⟨i, e⟩ := a.pl
  exact (ne_of_none e h).symm
/-- what is put at a new place behind a step -/
theorem Stp.upd {p : Addr} {H H' : Hp} (a : Stp p H H') {b : Addr} {o : HO} (h : H b = none) (n : b ≠ p) : Stp p H (upd H' b o) :=
  ⟨fun c u nc e => by rw [upd_ne (ne_of_none e h)]; exact a.keep _ _ nc e, let ⟨i, e⟩ := a.pl; ⟨i, by rw [upd_ne n.symm]; exact e⟩⟩
/-- p was free before: then nothing that stood is changed -/
theorem Stp.fresh {p : Addr} {H0 H H' : Hp} (a : Stp p H H') (s : Same H0 H) (h : H0 p = none) : Same H0 H' := fun b o e => a.keep b o (ne_of_none e h) (s b o e)
end Bs
namespace Bs
open PySem L2 TL NdefX
/-! ### super().__init__(..) in an own exception's __init__ -/
/-- what the written part says of the method at f, of the class C -/
structure SupC (P : Program) (K : PySem.W.Frag) (mg : Str → Option Value) (F : NF) (f cc C : Addr) (sf : Str) : Prop where
  lk : ∃ oc od osl doc pm ctv, K.lookup f = some (⟨oc, od, .func (F.fd doc pm ctv), osl⟩ : Obj)
  hd : ∃ ar : Arg, (F.params.posonlyargs ++ F.params.args).head? = some ar ∧ ar.arg = sf
  code : ∃ (ccl : Value) (cdd : Option Addr) (vs : Array Value) (ccs : Array (Option Value)) (file : Str) (tf : Tok), K.lookup F.c = some (⟨ccl, cdd, .fields vs, ccs⟩ : Obj) ∧ vs[2]? = some (.str file tf) ∧ ((P.main.file : Str) == file) = true
  cl : F.cl = [(("__class__" : Str), cc)]
  cell : ∃ (cl : Value) (cld : Option Addr) (csl : Array (Option Value)), K.lookup cc = some (⟨cl, cld, .cell (some (.ref C)), csl⟩ : Obj)
  cls : ∃ cd, PySem.W.clsIn K C = some cd
  sub : PySem.W.mroIn K C (.ref C) = some true
  sup : mg "super" = none
  ks : F.scope.names.lookup ("super" : Str) = some .globalImplicit
  kc : F.scope.names.lookup ("__class__" : Str) = some .free
  ka : F.scope.names.lookup sf = some .local
  top : (P.main.scope.names.lookup ("super" : Str)).isSome = false
  any : PySem.W.nsIn K PySem.cStatics "thirdparty.any" = some none
  sin : PySem.W.ks_superIn K C C "__init__" = some (some (.builtin "ValueError.__init__"))
  sVE : PySem.W.subIn K (.ref C) (.type "ValueError") = some true

section
variable {CX : CXT} {P : Program} {w : World} {K : PySem.W.Frag} {mg : Str → Option Value} {base : Heap} {N : List Str} {F : NF} {f cc C a : Addr} {A : Around} {outer : List Env} {s0 : Shared} {H0 : Hp} {E : XK} {self : Str} {e : Expr} {es : List Expr} {p0 p1 p2 pos : Pos} {ta : TA}
theorem sup_init {pins : List (Addr × Obj)} {σ : L2.St} {H : Hp} {s : Shared} {Q : VK} {pl : Sem Bool} (S : SupC P K mg F f cc C self) (T : OexC K C) (I : Inv (ncx CX P w K mg base N F f A outer s0 H0 E) pins σ H s)
    (hN : N[0]? = some self) (hσ : σ[0]? = some (some (.ref a))) (ea : H a = some (exo a C none)) (ha : PA (ncx CX P w K mg base N F f A outer s0 H0 E) (e :: es) ta) (h : ta σ H fun vs H1 => vs.length ≤ 1000 ∧ H1 a = some (exo a C none) ∧ Q .non H1)
    (he : starEach (e :: es) (envF F f s0.heap.objs.size) = (false, eval e (envF F f s0.heap.objs.size)) :: starEach es (envF F f s0.heap.objs.size)) (hpl : (backTo pos (starEach es (envF F f s0.heap.objs.size))).any (·.1) = false)
    (hc : eval (.Call (.Attribute (.Call (.Name "super" p0) [] [] p1) "__init__" p2) (e :: es) [] pos) (envF F f s0.heap.objs.size) = (do
      let ov ← attributeBase (.Call (.Name "super" p0) [] [] p1) "__init__" (envF F f s0.heap.objs.size) (eval (.Call (.Name "super" p0) [] [] p1) (envF F f s0.heap.objs.size))
      standAt p2.atName
      let (f', first) ← holding [ov] (getMethod ov "__init__" pl)
      callWith pos f' first (backTo pos (starEach (e :: es) (envF F f s0.heap.objs.size))) [])) :
    wpAt (model P w) (A.deeper (envF F f s0.heap.objs.size)) (.func F.body (envF F f s0.heap.objs.size)) (eval (.Call (.Attribute (.Call (.Name "super" p0) [] [] p1) "__init__" p2) (e :: es) [] pos) (envF F f s0.heap.objs.size))
      (EP (ncx CX P w K mg base N F f A outer s0 H0 E) pins σ Q) (ncx CX P w K mg base N F f A outer s0 H0 E).xe s := by
  have KX : K.In s.heap := I.kIn
  obtain ⟨oc, od, osl, doc, pm, ctv, lk⟩ := S.lk
  obtain ⟨ar, hd, har⟩ := S.hd
  obtain ⟨ccl, cdd, vs, ccs, file, tf, hcode, hvs, hfile⟩ := S.code
  obtain ⟨cl, cld, csl, hcell⟩ := S.cell
  obtain ⟨cd, hcd⟩ := S.cls
  obtain ⟨oD, hD1, hD2⟩ : ∃ oD, s.heap.get? C = some oD ∧ oD.data = .cls cd := by
    unfold PySem.W.clsIn at hcd
    split at hcd
    · rename_i c d cd' sl ho
      cases hcd
      exact ⟨_, KX _ _ ho, rfl⟩
    · cases hcd
  refine ks_wpAt_MethodCall (pl := pl) ?_ hc
  refine ks_wpAt_super_base (env := envF F f s0.heap.objs.size) (f := f) (cc := F.c) S.ks S.kc (by decide +kernel) rfl (KX _ _ lk) rfl hd rfl (KX _ _ hcode) rfl hvs hfile S.top ?_
  obtain ⟨mb, b1, b2⟩ := I.mod.blt
  refine PySem.W.ks_loadName_global (env := envF F f s0.heap.objs.size) I.ok.kind S.ks (Calls.loadGlobal_builtin (env := envF F f s0.heap.objs.size) (I.mod.glob.keeps I.bk) S.sup (b1.keeps I.bk) ((b2 "super" (by decide)).trans (by first | boot_by_name | rfl | kernel_rfl)) ⟨rfl, ?_⟩)
  refine wpAny_loadName_free (env := envF F f s0.heap.objs.size) I.ok.kind S.kc (by show List.lookup _ F.cl = _; rw [S.cl]; rfl) ⟨_, KX _ _ hcell, rfl⟩ ?_
  obtain ⟨m, hns, hl⟩ := I.loc
  obtain ⟨u, ru, lk2⟩ := hl 0 self _ hN hσ (.inl S.ka)
  obtain rfl : u = Value.ref a := ru
  have hm : m self = some (.ref a) := by
    rcases lk2 with ⟨_, z⟩ | ⟨z, _⟩
    · exact z
    · have z2 : F.scope.names.lookup self = some .cell ∨ F.scope.names.lookup self = some .free := z
      rw [S.ka] at z2
      rcases z2 with z2 | z2 <;> cases z2
  rw [har]
  refine wpAny_loadName_local (env := envF F f s0.heap.objs.size) I.ok.kind S.ka hns hm ?_
  refine ks_wpAny_isType_cls hD1 hD2 ⟨rfl, ?_⟩
  obtain ⟨t1, hx⟩ := exo_at I.hok ea
  obtain ⟨hp, g, d, t, os⟩ := s
  refine ks_wpAny_call_super hD1 hD2 hx rfl (fun c z => by cases z) (PySem.W.looks_mroIn KX S.sub) (fun h' e' k => ?_)
  have I1 : Inv (ncx CX P w K mg base N F f A outer s0 H0 E) pins σ H ⟨h', g, d, t, os⟩ := I.kept (t' := t) k
  have sin := S.sin
  unfold PySem.W.ks_superIn at sin
  rw [hcd] at sin
  obtain ⟨t2, hx1⟩ := exo_at I1.hok ea
  have hinst : PySem.W.Looks (model P w) h' (isInstance (.ref a) (.type "ValueError")) true := (PySem.W.InstAt.type (od := none) ⟨hx1, rfl, rfl, trivial⟩).andThen (PySem.W.looks_subIn I1.kIn S.sVE)
  have hne : a ≠ C := fun z => by
    have h2 := k _ _ hD1
    rw [← z, hx1] at h2
    cases h2
    cases hD2
  refine PySem.W.kxs_getMethod PySem.W.kxs_ValueError e' (PySem.W.looks_opaque I1.kIn S.any) (l₀ := cd.mro) (fun A Q E s k q => wpAny_bind ((PySem.W.looks_clsIn I1.kIn hcd) A _ E s k (wpAny_pure q))) rfl I1.kIn sin hinst hne (by decide +kernel) ?_
  have I2 : Inv (ncx CX P w K mg base N F f A outer s0 H0 E) pins σ H ⟨h'.push (PySem.W.kxs_mw "ValueError.__init__" a), g, d, t + 1, os⟩ := I1.kept (t' := t + 1) fun b o q => Heap.get?_push_of_some _ q
  have I3 : Inv (ncx CX P w K mg base N F f A outer s0 H0 E) ((h'.objs.size, PySem.W.kxs_mw "ValueError.__init__" a) :: pins) σ H ⟨h'.push (PySem.W.kxs_mw "ValueError.__init__" a), g, d, t + 1, os⟩ := I2.pins_of fun p hp => by
    rcases List.mem_cons.mp hp with rfl | hp
    · refine ⟨Heap.get?_push_at rfl rfl, I1.hok.fresh (Nat.le_refl _), ?_, I1.nofs (Nat.le_refl _), fun v z => by cases z⟩
      exact (Nat.ne_of_lt I1.lt).symm
    · exact I2.pin p (List.mem_append_right _ hp)
  show wpAny (model P w) _ (callWith pos (.ref h'.objs.size) [] (backTo pos (starEach (e :: es) (envF F f s0.heap.objs.size))) []) _ _ _
  have hrun := ha.run pos _ _ σ H _ I3 h
  rw [show (ncx CX P w K mg base N F f A outer s0 H0 E).env = envF F f s0.heap.objs.size from rfl, he] at hrun
  rw [he]
  refine PySem.W.kxs_callWith (i := "ValueError.__init__") (x := a) (by show (false || (backTo pos (starEach es (envF F f s0.heap.objs.size))).any (·.1)) = false; rw [hpl]; rfl) ?_
  refine PySem.Calls.evalArgs_plain (thn hrun fun us s1 ⟨vs, H1, I4, r1, hl, e1, q⟩ => ⟨(I4.pin _ (List.mem_append_right _ List.mem_cons_self)).1, ?_⟩)
  have hu := (I4.pin _ (List.mem_append_right _ List.mem_cons_self)).1
  have I5 : Inv (ncx CX P w K mg base N F f A outer s0 H0 E) pins σ H1 s1 := I4.pins_of fun p hp => I4.pin p (List.mem_append_right _ (List.mem_cons_of_mem _ hp))
  obtain ⟨nm, q', N', bs, bm, sn, sub, ab, col, dd, k0, k1, k2, k3, k5, hC, hbm⟩ := T.cls
  obtain ⟨t4, ho⟩ := exo_at I5.hok e1
  have hz : us.length ≤ sizeLine := by
    rw [← PySem.Paired.length r1, sizeLine_eq]
    omega
  obtain ⟨hp1, g1, d1, tk1, os1⟩ := s1
  show wpAny (model P w) _ (call (.ref h'.objs.size) us) _ _ _
  refine wpAny_call (codeAny_of_tree ?_)
  show wpAny _ _ (callAny (.ref h'.objs.size) ⟨us, []⟩) _ _ _
  simp only [callAny]
  refine wpAny_bind (wpAny_load hu ?_)
  simp only [PySem.W.kxs_mw, show (Value.type "method-wrapper" == Value.type "method" || Value.type "method-wrapper" == Value.type "builtin_function_or_method" || Value.type "method-wrapper" == Value.type "method-wrapper") = true by decide, if_true]
  refine PySem.W.KFB.if_so (by decide) ?_
  refine wpAny_bind (PySem.W.check_bound_init PySem.F.excBase_ValueError.toExcCallFacts (I5.kIn _ _ hC) ho rfl ?_)
  refine wpAny_bind (wpAny_pure (wpAny_pure ?_))
  refine ⟨plainId_quiet PySem.F.excBase_ValueError.init.plain _, codeAny_builtin PySem.F.excBase_ValueError.initEntry ?_⟩
  refine PySem.W.exc_init_tree (cls := .ref C) (t0 := t4) (dv := none) (c2 := .none) (c3 := .none) (b4 := .bool false) ho hz fun h2 k2 hx2 _ => ?_
  have J := I5.write (t' := tk1) (x := a) (e := a) (o := exo a C none) (by rw [e1]; exact True.intro) (.inl rfl) k2 ⟨_, hx2⟩ (exo_ok hx2)
  have eu : upd H1 a (exo a C none) = H1 := by
    funext b
    by_cases hb : b = a
    · rw [hb, upd_same, e1]
    · rw [upd_ne hb]
  rw [eu] at J
  exact ⟨.non, H1, J, rfl, q⟩

/-- THE RULE: an __init__ that begins with super().__init__(e, ..) -/
theorem fn_super {ps : List Str} {k : Nat} {sp : Sp} {fd : FuncData} {rest : List Stmt} {pE : Pos} (S : SupC P K mg F f cc C self) (T : OexC K C) (hcd : PySem.W.codeIn K (.ref F.c) F.qual = true) (Sc : NScope N ps [("__class__" : Str)] F.scope)
    (hfd : ∃ (oc : Value) (od : Option Addr) (osl : Array (Option Value)) (doc pm ctv : Value), fd = F.fd doc pm ctv ∧ K.lookup f = some (⟨oc, od, .func (F.fd doc pm ctv), osl⟩ : Obj))
    (hN : N[0]? = some self) (hb0 : F.body = .Expr (.Call (.Attribute (.Call (.Name "super" p0) [] [] p1) "__init__" p2) (e :: es) [] pos) pE :: rest) (len : ∀ vs H Q E, sp vs H Q E → vs.length = ps.length)
    (he : ∀ L, starEach (e :: es) (envF F f L) = (false, eval e (envF F f L)) :: starEach es (envF F f L)) (hpl : ∀ L, (backTo pos (starEach es (envF F f L))).any (·.1) = false)
    (hc : ∀ L, eval (.Call (.Attribute (.Call (.Name "super" p0) [] [] p1) "__init__" p2) (e :: es) [] pos) (envF F f L) = (do
      let ov ← attributeBase (.Call (.Name "super" p0) [] [] p1) "__init__" (envF F f L) (eval (.Call (.Name "super" p0) [] [] p1) (envF F f L))
      standAt p2.atName
      let (f', first) ← holding [ov] (getMethod ov "__init__" (do return (← importBound (.Call (.Name "super" p0) [] [] p1) (envF F f L)).getD true))
      callWith pos f' first (backTo pos (starEach (e :: es) (envF F f L))) []))
    (hi : ∀ L, interactive (envF F f L) = false) (hsw : ∀ L, swapsWith (.Call (.Attribute (.Call (.Name "super" p0) [] [] p1) "__init__" p2) (e :: es) [] pos) none pE.line (envF F f L) = pure false)
    (hrun : ∀ (A : Around) (outer : List Env) (s : Shared) (H : Hp) (vs : List V) (Q : VK) (E : XK), Room k (A.deeper (envF F f s.heap.objs.size)) → sp vs H Q E → ∃ ta t a, PA (ncx CX P w K mg base N F f A outer s H E) (e :: es) ta ∧ PSs (ncx CX P w K mg base N F f A outer s H E) rest t ∧
      (startF N vs [some (.ref C)])[0]? = some (some (.ref a)) ∧ H a = some (exo a C none) ∧ ta (startF N vs [some (.ref C)]) H fun ws H1 => ws.length ≤ 1000 ∧ H1 a = some (exo a C none) ∧ t { nx := fun _ H' => Q .non H', rt := Q } (startF N vs [some (.ref C)]) H1) :
    FnOk P w K mg base CX (k + 1) f fd ps sp := by
  obtain ⟨oc, od, osl, doc, pm, ctv, rfl, lk⟩ := hfd
  refine ⟨len, fun A outer s H args us vs Q E hr e0 hb r hsp => ?_⟩
  have KX : K.In s.heap := e0.mod.kin.keeps fun b o e => (e0.bs b o e).1
  have hl := len _ _ _ _ hsp
  have lim : s.heap.NoLimit := e0.mod.nolimit.keeps fun b o e => (e0.bs b o e).1
  obtain ⟨cl, cld, csl, hcell⟩ := S.cell
  have hcc : s.heap.IsCell cc (some (.ref C)) := ⟨_, KX _ _ hcell, rfl⟩
  have lone : ∀ y c, F.cl.lookup y = some c → y = ("__class__" : Str) ∧ c = cc := fun y c z => by
    rw [S.cl] at z
    have hm := PySem.mem_of_lookup z
    have hm2 := List.mem_singleton.mp hm
    exact ⟨congrArg Prod.fst hm2, congrArg Prod.snd hm2⟩
  have Cc : CellsAt F.cl [("__class__" : Str)] [some (.ref C)] s.heap H := by
    refine ⟨rfl, fun y c z => ?_, fun x y c h1 h2 => (lone _ _ h1).1.trans (lone _ _ h2).1.symm, fun i y z => ?_⟩
    · obtain ⟨_, rfl⟩ := lone y c z
      exact ⟨(e0.bs _ _ (e0.mod.kin _ _ hcell)).2, _, hcc⟩
    · have hy : y = ("__class__" : Str) := List.mem_singleton.mp (List.mem_of_getElem? z)
      have hi0 : i = 0 := by
        have h1 := (List.getElem?_eq_some_iff.mp z).1
        rw [List.length_singleton] at h1
        omega
      subst hi0
      refine ⟨cc, by rw [hy, S.cl]; rfl, fun v hv => ?_⟩
      cases hv
      exact ⟨.ref C, rfl, hcc⟩
  refine codeAny_call_function hr.depth (KX _ _ lk) rfl Sc.co Sc.gen rfl (PySem.W.codeRec_of KX hcd) (hb _ _ _ _ ?_)
  refine wpAny_newFunctionEnv Sc.nocell (fun ⟨n, _⟩ hy => Sc.par n (List.of_mem_zip hy).1) (fun h₁ hns hsb => ⟨lim.fresh _ hsb, ?_⟩) Sc.kind
  show codeAny _ _ (.func F.body (envF F f s.heap.objs.size)) _ _
  have kp : ∀ b o, s.heap.get? b = some o → h₁.get? b = some o := fun b o e => hsb.extBut b o (Nat.ne_of_lt (Heap.lt_size e)) (Heap.get?_push_of_some _ e)
  obtain ⟨ta, t, a, hta, ht, hσ, ea, hq⟩ := hrun A outer s H vs Q E (hr.deeper _) hsp
  have I : Inv (ncx CX P w K mg base N F f A outer s H E) [] (startF N vs [some (.ref C)]) H { s with heap := h₁, toks := s.toks + (ps.zip us).length } := inv_startN Sc hr.hd e0 hl r Cc hns kp
  refine ks_codeAny_funcAt ?_
  rw [show execs F.body (envF F f s.heap.objs.size) = execs (.Expr (.Call (.Attribute (.Call (.Name "super" p0) [] [] p1) "__init__" p2) (e :: es) [] pos) pE :: rest) (envF F f s.heap.objs.size) by rw [hb0]]
  refine ks_wpAt_execs_cons ?_
  refine ks_wpAt_Expr_any ?_ (hi _) (hsw _)
  refine wpAt_mono (sup_init (Q := fun _ H1 => t { nx := fun _ H' => Q .non H', rt := Q } (startF N vs [some (.ref C)]) H1) S T I hN hσ ea hta hq (he _) (hpl _) (hc _)) (fun v s1 hv => ?_) fun e s' hs => hs
  obtain ⟨x, H1, I1, _, q⟩ := hv
  refine wpAt_of_wpAny (wpAny_mono (ht.run [] _ _ H1 _ I1 q) (fun fl s' hs => ?_) fun e s' hs => hs)
  have fin : ∀ {σ' : L2.St} {H' : Hp} {v : V} {u : Value}, Inv (ncx CX P w K mg base N F f A outer s H E) [] σ' H' s' → L2.RelV v u → Q v H' → CE outer P w H s Q u s' :=
    fun {σ' H' v u} J rv q => ⟨v, H', J.os, J.bare, J.base, J.hok, rv, q⟩
  cases fl with
  | ret u =>
    obtain ⟨v, σ', H', J, rv, q⟩ := hs
    exact fin J rv q
  | next =>
    obtain ⟨σ', H', J, q⟩ := hs
    exact fin (v := V.non) (u := Value.none) J rfl q
  | brk =>
    obtain ⟨_, _, _, q⟩ := hs
    exact False.elim q
  | cont =>
    obtain ⟨_, _, _, q⟩ := hs
    exact False.elim q
end
end Bs
namespace Bs
open PySem PySem.Spec PyProof.Rows L2 TL
/-! ### raise C(..) where a suite that catches it may call defs: its context is told -/
theorem pmkN_own {X : Cx} {e : Expr} {es : List Expr} {ta : TA} {p pos : Pos} {CX : CXT} {x : Str} {C fI : Addr} {k : Nat} {fd : FuncData} {ps : List Str} {sp : Sp} (T : OexC X.K C) (iC : PySem.W.findIn X.K (.ref C) "__init__" = some (some (.ref fI))) (tI : PySem.W.typeIn X.K (.ref fI) = some (.type "function"))
    (F1 : FnOk X.prog X.w X.K X.mg X.base CX k fI fd ps sp) (hr : Room (k + 1) X.A) (hb : Binds X.K fd ps []) (hx : Passes CX X (fun _ _ _ => False)) (hg : Gl X x) (hm : X.mg x = some (.ref C)) (ha : PA X (e :: es) ta)
    (hdb : (x == ("__debug__" : Str)) = false := by decide) (he : starEach (e :: es) X.env = (false, eval e X.env) :: starEach es X.env := by rfl) (hpl : (backTo pos (starEach es X.env)).any (·.1) = false := by rfl) :
    L2N.PMk X (.Call (.Name x p) (e :: es) [] pos) (tMkO C sp [] ta) := by
  intro pins s σ H Q I h
  obtain ⟨nm, q, N, bs, bm, sn, sub, ab, col, dd, k0, k1, k2, k3, k5, hC, hbm⟩ := T.cls
  refine wpAny_Call_Name_kw (ld_glob I hg hm ?_ hdb)
  refine PySem.W.callWith_K (h₀ := X.base) I.ok.mod.kin T.kC (thn (ha.run pos pins s σ H _ I h) fun us s1 hs1 => ?_) he hpl
  obtain ⟨vs, H1, I1, r1, hz, q1⟩ := hs1
  refine ⟨I1.kIn, ?_⟩
  show wpAny _ _ (call (.ref C) us) _ _ _
  obtain ⟨hp, g, dr, tk, os⟩ := s1
  have hge : hp.objs.size ≤ hp.objs.size + 1 := Nat.le_succ _
  have q2 := q1 (hp.objs.size + 1) (I1.hok.fresh hge)
  have up : ∀ b o, hp.get? b = some o → ((hp.push (PySem.W.kdv_tup us)).push (PySem.HandSPX.excO C hp.objs.size)).get? b = some o := fun b o z => Heap.get?_push_of_some _ (Heap.get?_push_of_some _ z)
  have there : ((hp.push (PySem.W.kdv_tup us)).push (PySem.HandSPX.excO C hp.objs.size)).get? (hp.objs.size + 1) = some (PySem.HandSPX.excO C hp.objs.size) := by heap_get
  have I2 := I1.laid (t' := tk) (o := exo (hp.objs.size + 1) C none) up hge (exo_ok there)
  have r2 : Vals (V.ref (hp.objs.size + 1) :: (vs ++ [])) (Value.ref (hp.objs.size + 1) :: us) := .cons rfl (by rw [List.append_nil]; exact r1)
  have hl : (Value.ref (hp.objs.size + 1) :: us ++ []).length = ps.length := by
    rw [List.append_nil]
    exact (r2.length).symm.trans (F1.len _ _ _ _ q2)
  have hB := hb ⟨(hp.push (PySem.W.kdv_tup us)).push (PySem.HandSPX.excO C hp.objs.size), g, dr, tk, os⟩ (Value.ref (hp.objs.size + 1) :: us) I2.kIn hl
  rw [List.append_nil] at hB
  have hus : us.length ≤ sizeLine := by
    rw [← PySem.Paired.length r1, sizeLine_eq]
    omega
  refine wpAny_call (PySem.HandSPX.call_own PySem.F.excBase_ValueError (fun Y => PySem.HandSPX.refsVE_contains Y bm hbm) (I1.kIn _ _ hC) (PySem.W.looks_findIn I1.kIn iC) (fun self => PySem.W.bind_fn I1.kIn self tI) hus
    (codeAny_mono (F1.run _ X.stack _ _ ⟨Value.ref (hp.objs.size + 1) :: us, []⟩ (Value.ref (hp.objs.size + 1) :: us) _ _ (fun _ _ _ => False) (hr.make C us []) (I2.env0.make C us []) hB r2 q2) fun r s' hq' => ?_))
  cases r with
  | error er => exact hx pins σ _ _ er s' I2 hq'
  | ok fl =>
    cases fl with
    | ret u =>
      obtain ⟨v, H2, os2, bare2, un2, hok2, rv, ev, d, fs, ea, ed, hd1, q3⟩ := hq'
      subst ev
      obtain ⟨h2, g2, d2, t2, os'⟩ := s'
      refine ⟨rv, ?_⟩
      obtain ⟨t0, G, J, kG, ge, hoe, na⟩ := mk_end0 (d2 := d2) (t2 := t2) I1 hge up un2 hok2 os2 bare2 ea ed hd1
      exact ⟨_, _, _, ⟨G, g2, d2, t2, os'⟩, _, .ref C, some d, rfl, J, kG, ge, hoe, ⟨rfl, rfl, fun vs z => by cases z; rfl⟩, rfl, rfl, na, rfl, bare2, raises_own T.exC T.tyC, q3⟩
    | next => exact False.elim hq'
    | brk => exact False.elim hq'
    | cont => exact False.elim hq'
/-! ### isinstance of a caught error that has fields -/
def rIsD (K : PySem.W.Frag) (D a : Addr) (cls : Value) (d : Option Addr) : List V → Hp → VK → Prop := fun xs H Q => cls = .ref D ∧ ∃ (c : V) (cv : Value) (b : Bool) (dd : Addr) (fs : List (Str × V)), xs = [.ref a, c] ∧ (∀ u, RelV c u → u = cv) ∧ PySem.W.kitOne K (.ref D) cv = some b ∧ d = some dd ∧ H dd = some (.xd fs) ∧ Q (.bl b) H
theorem call_isD {X : Cx} {a D : Addr} {oe : Obj} {cls : Value} {d : Option Addr} {pn : List (Addr × Obj)} (C : ExcC X.K D) (hz : Zc cls d oe) (hf : ∃ vs, oe.data = .fields vs) : CallR (X.suite a ((a, oe) :: pn)) (.builtin "isinstance") (rIsD X.K D a cls d) := by
  intro pins s σ H xs us Q I r h
  obtain ⟨rfl, c, cv, b, dd, fs, rfl, hcv, e, rfl, hdd, q⟩ := h
  cases r with
  | cons rx rr =>
    cases rr with
    | cons rt rr =>
      cases rr
      cases rx
      have ec := hcv _ rt
      subst ec
      obtain ⟨ha, _⟩ := I.pin (a, oe) (List.mem_append_left _ List.mem_cons_self)
      obtain ⟨vs, hv⟩ := hf
      obtain ⟨mA, hns, _⟩ := (show ObjOk X.prog X.w H s.heap dd (.xd fs) from I.hok dd _ hdd)
      obtain ⟨od, ho, _⟩ := lookIn_ns hns
      have J : PySem.W.InstAt s.heap a oe D (some od) := ⟨ha, hz.1, by unfold PySem.W.notCls; rw [hv] <;> rfl, by rw [hz.2]; exact ho⟩
      have hcl : (PySem.W.clsIn X.K D).isSome = true := by
        obtain ⟨cd, hc, _⟩ := PySem.W.any_some C.hd
        rw [hc]
        rfl
      exact PySem.W.kia_one (PySem.W.kitx_exc hcl C.hg C.hk C.hs C.ha C.hn C.ht C.hm) I.kIn J e (fun z => nomatch z) fun tk => ⟨.bl b, H, I.kept (t' := tk) fun _ _ z => z, rfl, q⟩
/-! ### a def that lets errors out, their context told -/
theorem _root_.L2.Fun.okN {P : Program} {w : World} {K : PySem.W.Frag} {mg : Str → Option Value} {base : Heap} {x qual : Str} {st : Stmt} {f : Addr} {fd : FuncData} {N ps : List Str} {k : Nat} {sp : Sp} (F : L2.Fun K x qual st f fd) (S : FnScope N ps (defScope st)) (len : ∀ vs H Q E, sp vs H Q E → vs.length = ps.length)
    (hbody : ∀ (cdv : Value) (A : Around) (outer : List Env) (s : Shared) (H : Hp) (vs : List V) (Q : VK) (E : XK), Room k (A.deeper (envOfC qual (defScope st) s.heap.objs.size f cdv)) → sp vs H Q E →
      ∃ t, PSs (cxOf (L2N.CX P w) P w K mg base N qual (defScope st) f cdv A outer s H E) (defBody st) t ∧ t { nx := fun _ H' => Q .non H', rt := Q } (start N vs) H) : FnOk P w K mg base (L2N.CX P w) (k + 1) f fd ps sp := by
  obtain ⟨oc, od, kV, doc, pm, an, cdv, ct, osl, rfl, lk, hcd⟩ := F.ex
  exact fn_of lk hcd S len fun A outer s H vs Q E hr hsp => hbody cdv A outer s H vs Q E hr hsp
theorem takesN0 {X : Cx} : L2N.Takes X (fun _ _ _ _ => False) := fun _ _ ⟨_, _, _, _, _, _, _, _, _, _, _, _, _, _, _, _, w⟩ => w.elim
/-- a def that is called within an except suite -/
theorem _root_.L2.Fun.okH {CX : CXT} {P : Program} {w : World} {K : PySem.W.Frag} {mg : Str → Option Value} {base : Heap} {x qual : Str} {st : Stmt} {f : Addr} {fd : FuncData} {N ps : List Str} {k : Nat} {sp : Sp} (F : L2.Fun K x qual st f fd) (S : FnScope N ps (defScope st)) (len : ∀ vs H Q E, sp vs H Q E → vs.length = ps.length)
    (hbody : ∀ (cdv : Value) (A : Around) (outer : List Env) (s : Shared) (H : Hp) (vs : List V) (Q : VK) (E : XK) (p : Addr × Obj), L2H.RoomH k (A.deeper (envOfC qual (defScope st) s.heap.objs.size f cdv)) → sp vs H Q E →
      ∃ t, PSs (L2H.cxH CX P w K mg base N qual (defScope st) f cdv A outer s H E p) (defBody st) t ∧ t { nx := fun _ H' => Q .non H', rt := Q } (start N vs) H) : L2H.FnH P w K mg base CX (k + 1) f fd ps sp := by
  obtain ⟨oc, od, kV, doc, pm, an, cdv, ct, osl, rfl, lk, hcd⟩ := F.ex
  exact L2H.fn_ofH lk hcd S len fun A outer s H vs Q E p _ hr hsp => hbody cdv A outer s H vs Q E p hr hsp
end Bs
namespace Bs
open PySem L2 TL PySem.Spec PyProof.Rows

/-! ### tuple * int, also 0 and 1 times -/
theorem tuple_mul0 (l : Addr) (items : Array Value) (n : Nat) (dd : Option Addr) (sl : Array (Option Value)) (u : Tok) (c1 : (items.isEmpty || (0 : Int) == 1) = false) :
    Meets (Builtin.«tuple.__mul__» ⟨[.ref l, .int 0 u], []⟩) (fun _ R s => s.heap.get? l = some { cls := .type "tuple", dict := dd, data := .seq items n, slots := sl } ∧
      R (.ok (.ret (Value.ref s.heap.objs.size))) { s with heap := s.heap.push { cls := Value.type "tuple", data := Data.seq #[] }, toks := s.toks }) :=
  .of_wp fun prog w A R s h => by
    obtain ⟨hp, g, d, tk, os⟩ := s
    obtain ⟨hl, h⟩ := h
    have f1 := AutoSeq1.idx_int
    wp_walk using AutoSeq1.wpAny_loadPart' hl
    repeat (first
      | (refine wpAny_ite_false (decide_eq_false (by decide)) ?_; wp_walk using AutoSeq1.wpAny_loadPart' hl)
      | (refine wpAny_ite_false (decide_eq_false (by rw [c1]; exact Bool.false_ne_true)) ?_; wp_walk using AutoSeq1.wpAny_loadPart' hl))
    exact ⟨_, rfl, h⟩
theorem tuple_mul1 (l : Addr) (items : Array Value) (n : Nat) (dd : Option Addr) (sl : Array (Option Value)) (u : Tok) (c1 : (items.isEmpty || (1 : Int) == 1) = true) :
    Meets (Builtin.«tuple.__mul__» ⟨[.ref l, .int 1 u], []⟩) (fun _ R s => s.heap.get? l = some { cls := .type "tuple", dict := dd, data := .seq items n, slots := sl } ∧
      R (.ok (.ret (Value.ref l))) s) :=
  .of_wp fun prog w A R s h => by
    obtain ⟨hp, g, d, tk, os⟩ := s
    obtain ⟨hl, h⟩ := h
    have f1 := AutoSeq1.idx_int
    wp_walk using AutoSeq1.wpAny_loadPart' hl
    repeat (first
      | (refine wpAny_ite_true (decide_eq_true (by rw [c1])) ?_; wp_walk using AutoSeq1.wpAny_loadPart' hl)
      | (refine wpAny_ite_false (decide_eq_false (by decide)) ?_; wp_walk using AutoSeq1.wpAny_loadPart' hl))
    exact ⟨_, rfl, h⟩
def rRepA (K : PySem.W.Frag) : R2 := fun x y H Q => ∃ (l : Addr) (k : Nat) (xs : List V), x = .ref l ∧ y = .int (k : Int) ∧ SqT K H l xs ∧ xs ≠ [] ∧ k ≤ 1000 ∧ xs.length ≤ 1000 ∧ ∀ H' p, Same H H' → SqT K H' p (List.replicate k xs).flatten → Q (.ref p) H'
section
variable {X : Cx}
theorem op_repA : OpR X (binaryOp .Mult) (rRepA X.K) := by
  intro pins s σ H x y v u Q I rx ry h
  obtain ⟨l, k, xs, rfl, rfl, hT, hne, h2, hz, q⟩ := h
  by_cases hk : 2 ≤ k
  · exact op_repT pins s σ H _ _ v u Q I rx ry ⟨l, _, xs, rfl, rfl, hT, hne, by omega, by omega, hz, fun p np => q _ p (same_upd np) (by rw [Int.toNat_natCast]; exact SqT.of upd_same)⟩
  · cases rx
    obtain ⟨t, rfl⟩ := ry
    obtain ⟨its, r, ⟨⟨cls, dd, data, sl⟩, ho, hc, n, hd⟩, hs⟩ := I.tuple hT
    simp only at hc hd
    subst hc hd
    have hle : its.length = xs.length := r.length.symm
    have hn : its ≠ [] := fun e => hne (by
      rw [e] at hle
      exact List.eq_nil_of_length_eq_zero hle.symm)
    have hi : its.toArray.isEmpty = false := by
      cases its with
      | nil => exact absurd rfl hn
      | cons a b => rfl
    by_cases hk0 : k = 0
    · subst hk0
      have c1 : (its.toArray.isEmpty || (0 : Int) == 1) = false := by rw [hi]; rfl
      refine wpAny_binaryOp_repeat_ref (T := "tuple") (U := "int") (by decide) ⟨_, ho, rfl⟩ (fun s' => typeIs_int s' _ t) noFill_tuple_mul F.fills_int_mul F.slot_int_rmul repeat_tuple F.slot_int_index.lookup
        (call_meets F.slot_int_rmul (typeIs_int s _ t) F.entry_int_rmul (F.args_int_rmul_2 _ _) (L2.int_rmul_tuple _ t l its.toArray n dd sl)
          ⟨ho, rfl, ⟨_, ho, rfl⟩, call_meets F.slot_tuple_mul ⟨_, ho, rfl⟩ F.entry_tuple_mul (F.args_tuple_mul_2 _ _) (tuple_mul0 l its.toArray n dd sl t c1) ⟨ho, ?_⟩⟩)
      refine ⟨.ref s.heap.objs.size, _, I.laid (t' := s.toks) (o := .tup []) (fun b ob q => Heap.get?_push_of_some _ q) (Nat.le_refl _) ?_, rfl, q _ _ (same_upd (I.hok.fresh (Nat.le_refl _))) (SqT.of upd_same)⟩
      exact ⟨Nat.zero_le _, [], .nil, IsTup.new _ _⟩
    · have hk1 : k = 1 := by omega
      subst hk1
      have c1 : (its.toArray.isEmpty || (1 : Int) == 1) = true := by rw [hi]; rfl
      refine wpAny_binaryOp_repeat_ref (T := "tuple") (U := "int") (by decide) ⟨_, ho, rfl⟩ (fun s' => typeIs_int s' _ t) noFill_tuple_mul F.fills_int_mul F.slot_int_rmul repeat_tuple F.slot_int_index.lookup
        (call_meets F.slot_int_rmul (typeIs_int s _ t) F.entry_int_rmul (F.args_int_rmul_2 _ _) (L2.int_rmul_tuple _ t l its.toArray n dd sl)
          ⟨ho, rfl, ⟨_, ho, rfl⟩, call_meets F.slot_tuple_mul ⟨_, ho, rfl⟩ F.entry_tuple_mul (F.args_tuple_mul_2 _ _) (tuple_mul1 l its.toArray n dd sl t c1) ⟨ho, ?_⟩⟩)
      refine ⟨.ref l, H, I, rfl, q _ _ (Same.refl _) ?_⟩
      rw [show (List.replicate 1 xs).flatten = xs by simp]
      exact hT
end
/-! ### tuples of ints: without the last, with one more -/
theorem sIx_m1 (n : Nat) : HT.sIx (n + 1) (n + 1) (some (-1)) = n := by
  show (if (-1 : Int) < 0 then ((-1 : Int) + ((n + 1 : Nat) : Int)).toNat else min (-1 : Int).toNat (n + 1)) = n
  rw [if_pos (by decide)]
  omega
theorem sl_init {K : PySem.W.Frag} {H : Hp} {a : Addr} {xs : List V} {x : V} {Q : VK} (h : SqT K H a (xs ++ [x])) (q : ∀ H' p, Same H H' → SqT K H' p xs → Q (.ref p) H') : rSlA K (.ref a) none (some (-1)) H Q := by
  refine ⟨a, _, rfl, h, fun z => ?_, fun _ p np => q _ p (same_upd np) ?_⟩
  · have z2 := z.2
    rw [List.length_append, List.length_singleton, sIx_m1] at z2
    omega
  · have ec : cutV (xs ++ [x]) none (some (-1)) = xs := by
      unfold cutV
      rw [HT.sIx_none, List.drop_zero, List.length_append, List.length_singleton, sIx_m1, Nat.sub_zero, List.take_append_of_le_length (Nat.le_refl _), List.take_of_length_le (Nat.le_refl _)]
    rw [ec]
    exact SqT.of upd_same
theorem cat_sm {K : PySem.W.Frag} {H : Hp} {a b : Addr} {xs ys : List V} {Q : VK} (h : SqT K H a xs) (h2 : SqT K H b ys) (hl : xs.length + ys.length ≤ 100000) (q : ∀ H' p, Same H H' → SqT K H' p (xs ++ ys) → Q (.ref p) H') : rCatA K (.ref a) (.ref b) H Q := by
  refine ⟨a, b, xs, ys, rfl, rfl, h, h2, Nat.le_trans hl (by decide), fun z => ?_, fun _ z => ?_, fun _ _ p np => q _ p (same_upd np) (SqT.of upd_same)⟩
  · subst z
    exact q H b (Same.refl _) h2
  · subst z
    rw [List.append_nil] at q
    exact q H a (Same.refl _) h
theorem atI_lastI {xs : List Int} {x : Int} : atI ((xs ++ [x]).map V.int) (-1) = some (V.int x) := by
  rw [List.map_append]
  exact atI_last _ _
theorem kit_self {K : PySem.W.Frag} {C : Addr} : PySem.W.kitOne K (.ref C) (.ref C) = some true := by
  unfold PySem.W.kitOne
  rw [show (Value.ref C == Value.ref C) = true from beq_self_eq_true _, if_pos rfl]
/-! ### comprehensions over tuples and lists -/
theorem lc_yat {J : It} {n : Nat} {G : Hp → Prop} {xs : List V} (w : Walk J n G (YAt xs)) (hl : xs.length = n) {g : TG} {te : TE} {vs : List Nat} {σ : L2.St} {H1 : Hp} {D : Addr} {Qd : Hp → Prop} (f : V → V) (hD : H1 D = none) (hn : n ≤ 1000000)
    (hG : ∀ H', Same H1 H' → G H')
    (hs : ∀ x H' (R : VK), x ∈ xs → Same H1 H' → (∀ H4, Same H' H4 → R (f x) H4) → g x (wipe σ vs) H' fun σ2 H2 => wipe σ2 vs = wipe σ vs ∧ te σ2 H2 R)
    (hd : ∀ H', Same H1 H' → H' D = some (.lst (xs.map f)) → Qd H') : LoopC J g tYes te vs σ H1 D Qd := by
  refine lc_ys w (xs.map f) hD hn (by rw [List.length_map, hl]) hG yat_same (fun i x y H1 H2 R hi hy s1 yy k => ?_) hd
  obtain ⟨rfl, e⟩ := yat_at yy
  rw [List.getElem?_map, e] at hy
  cases hy
  exact hs x _ R (List.mem_of_getElem? e) s1 k
theorem lc_tupI {K : PySem.W.Frag} {a : Addr} {xs : List Int} {g : TG} {te : TE} {vs : List Nat} {σ : L2.St} {H1 : Hp} {D : Addr} {Qd : Hp → Prop} (f : Int → Int) (hX : SqT K H1 a (xs.map V.int)) (hD : H1 D = none) (hn : xs.length ≤ 1000000)
    (hs : ∀ x H' (R : VK), x ∈ xs → Same H1 H' → (∀ H4, Same H' H4 → R (.int (f x)) H4) → g (.int x) (wipe σ vs) H' fun σ2 H2 => wipe σ2 vs = wipe σ vs ∧ te σ2 H2 R)
    (hd : ∀ H', Same H1 H' → H' D = some (.lst ((xs.map f).map V.int)) → Qd H') : LoopC (Itt K a) g tYes te vs σ H1 D Qd := by
  refine lc_yat (walk_tup (xs := xs.map V.int)) rfl (fun v => match v with | .int x => .int (f x) | v => v) hD (by rw [List.length_map]; exact hn) (fun H' s => sameT s hX) (fun x H' R hx s1 k => ?_) (fun H' s' e => hd H' s' ?_)
  · obtain ⟨z, hz, rfl⟩ := List.mem_map.mp hx
    exact hs z H' R hz s1 k
  · rw [e, List.map_map, List.map_map]
    rfl
theorem lc_lstI {K : PySem.W.Frag} {a : Addr} {xs : List Int} {g : TG} {te : TE} {vs : List Nat} {σ : L2.St} {H1 : Hp} {D : Addr} {Qd : Hp → Prop} (f : Int → Int) (hX : SqL K H1 a (xs.map V.int)) (hD : H1 D = none) (hn : xs.length ≤ 1000000)
    (hs : ∀ x H' (R : VK), x ∈ xs → Same H1 H' → (∀ H4, Same H' H4 → R (.int (f x)) H4) → g (.int x) (wipe σ vs) H' fun σ2 H2 => wipe σ2 vs = wipe σ vs ∧ te σ2 H2 R)
    (hd : ∀ H', Same H1 H' → H' D = some (.lst ((xs.map f).map V.int)) → Qd H') : LoopC (Itl K a) g tYes te vs σ H1 D Qd := by
  refine lc_yat (walk_list (xs := xs.map V.int)) rfl (fun v => match v with | .int x => .int (f x) | v => v) hD (by rw [List.length_map]; exact hn) (fun H' s => s.seq hX) (fun x H' R hx s1 k => ?_) (fun H' s' e => hd H' s' ?_)
  · obtain ⟨z, hz, rfl⟩ := List.mem_map.mp hx
    exact hs z H' R hz s1 k
  · rw [e, List.map_map, List.map_map]
    rfl
/-- with a test -/
theorem lc_yatF {J : It} {n : Nat} {G : Hp → Prop} {xs : List V} (w : Walk J n G (YAt xs)) (hl : xs.length = n) {g : TG} {tt : TT} {te : TE} {vs : List Nat} {σ : L2.St} {H1 : Hp} {D : Addr} {Qd : Hp → Prop} (b : V → Bool) (f : V → V) (hD : H1 D = none) (hn : n ≤ 1000000)
    (hG : ∀ H', Same H1 H' → G H')
    (hs : ∀ x H' (N : Hp → Prop) (R : VK), x ∈ xs → Same H1 H' → (b x = false → ∀ H4, Same H' H4 → N H4) → (b x = true → ∀ H4, Same H' H4 → R (f x) H4) → g x (wipe σ vs) H' fun σ2 H2 => wipe σ2 vs = wipe σ vs ∧ tt σ2 H2 fun b H3 => if b = true then te σ2 H3 R else N H3)
    (hd : ∀ H', Same H1 H' → H' D = some (.lst ((xs.filter b).map f)) → Qd H') : LoopC J g tt te vs σ H1 D Qd := by
  refine loopc_it w (fun i H => Same H1 H ∧ H D = some (.lst (((xs.take i).filter b).map f))) ⟨same_upd hD, upd_same⟩ (fun i H _ p => hG H p.1) (fun i x H H' hi p y => ?_) (fun H p => hd H p.1 ?_)
  · obtain ⟨rfl, e⟩ := yat_at y
    have hx := List.mem_of_getElem? e
    have hi' : i < xs.length := by omega
    have et : xs.take (i + 1) = xs.take i ++ [x] := by
      rw [List.take_succ_eq_append_getElem hi', (List.getElem?_eq_some_iff.mp e).2]
    refine hs x _ _ _ hx p.1 (fun hb H4 s4 => ⟨p.1.trans s4, ?_⟩) (fun hb H4 s4 => ⟨_, s4 _ _ p.2, ?_, same_upd2 (p.1.trans s4) hD, ?_⟩)
    · rw [et, List.filter_append, List.filter_cons, hb, if_neg (by decide), List.filter_nil, List.append_nil]
      exact s4 _ _ p.2
    · rw [List.length_map]
      exact smallM (Nat.le_trans (List.length_filter_le _ _) (by rw [List.length_take]; omega))
    · rw [upd_same, et, List.filter_append, List.filter_cons, hb, if_pos rfl, List.filter_nil, List.map_append]
      rfl
  · rw [p.2, ← hl, List.take_length]
theorem lc_tupIF {K : PySem.W.Frag} {a : Addr} {xs : List Int} {g : TG} {tt : TT} {te : TE} {vs : List Nat} {σ : L2.St} {H1 : Hp} {D : Addr} {Qd : Hp → Prop} (b : Int → Bool) (hX : SqT K H1 a (xs.map V.int)) (hD : H1 D = none) (hn : xs.length ≤ 1000000)
    (hs : ∀ x H' (N : Hp → Prop) (R : VK), x ∈ xs → Same H1 H' → (b x = false → ∀ H4, Same H' H4 → N H4) → (b x = true → ∀ H4, Same H' H4 → R (.int x) H4) → g (.int x) (wipe σ vs) H' fun σ2 H2 => wipe σ2 vs = wipe σ vs ∧ tt σ2 H2 fun b H3 => if b = true then te σ2 H3 R else N H3)
    (hd : ∀ H', Same H1 H' → H' D = some (.lst ((xs.filter b).map V.int)) → Qd H') : LoopC (Itt K a) g tt te vs σ H1 D Qd := by
  refine lc_yatF (walk_tup (xs := xs.map V.int)) rfl (fun v => match v with | .int x => b x | _ => false) (fun v => v) hD (by rw [List.length_map]; exact hn) (fun H' s => sameT s hX) (fun x H' N R hx s1 k1 k2 => ?_) (fun H' s' e => hd H' s' ?_)
  · obtain ⟨z, hz, rfl⟩ := List.mem_map.mp hx
    exact hs z H' N R hz s1 k1 k2
  · rw [e, List.map_id'', List.filter_map]
    · rfl
    · intro _; rfl
/-- walked as a list or as a tuple -/
def iOr (w1 w2 : TI) : TI := fun σ H R => w1 σ H R ∨ w2 σ H R
theorem pi_or {X : Cx} {tg it : Expr} {w1 w2 : TI} (h1 : PI X tg it w1) (h2 : PI X tg it w2) : PI X tg it (iOr w1 w2) := ⟨fun pins s σ H R I h => h.elim (h1.run pins s σ H R I) (h2.run pins s σ H R I)⟩
end Bs
namespace Bs
open PySem L2 TL PySem.Spec PyProof.Rows PySem.SeqAt

/-! ### one pair is less than another one whose first items are equal -/
/-- two values compared by < -/
def LtAt (A : Around) (s : Shared) (y x : Value) (r : Bool) : Prop :=
  ∀ (prog : Program) (w : World) (Er Qr : Value → Shared → Prop), Qr (.bool r) s → wpAny (model prog w) A (richCompare .Lt y x) Qr Er s
theorem pair_lt (l b : Addr) (p q u v : Value) (n n2 : Nat) (dd dd2 : Option Addr) (sl sl2 : Array (Option Value)) (c r : Bool) :
    Meets (Builtin.«tuple.__lt__» ⟨[.ref l, .ref b], []⟩)
      (fun A R s => (s.heap.get? l = some { cls := .type "tuple", dict := dd, data := .seq #[p, q] n, slots := sl } ∧ s.heap.get? b = some { cls := .type "tuple", dict := dd2, data := .seq #[u, v] n2, slots := sl2 }) ∧
        EqAt A.in1 s p u true ∧ EqAt A.in1 s q v c ∧ (c = false → LtAt A.in1 s q v r) ∧ R (.ok (.ret (.bool (if c then false else r)))) s) :=
  .of_wp fun prog w A R s h => by
    obtain ⟨hp, g, d, tk, os⟩ := s
    obtain ⟨⟨hl, hb⟩, e1, e2, e3, hR⟩ := h
    have f2 := AutoSeq1.sub_tuple_tuple
    wp_walk using AutoSeq1.wpAny_loadPart' hl, AutoSeq1.wpAny_loadPart' hb, wpAny_forIn_list _ (fun rest k s' => (k.1 = none ∧ s' = ⟨hp, g, d, tk, os⟩) ∧ (rest = [(p, u), (q, v)] ∨ rest = [(q, v)] ∨ (rest = [] ∧ c = true))) _
    case turn =>
      rintro ⟨y, x⟩ rest k s' ⟨⟨hk, rfl⟩, hz⟩
      rcases hz with hz | hz | ⟨hz, _⟩
      · injection hz with h1 h2
        injection h1 with h3 h4
        subst h3 h4 h2
        refine wpAny_bind (e1 prog w _ _ ?_)
        wp_walk
        exact ⟨⟨rfl, rfl⟩, .inr (.inl rfl)⟩
      · injection hz with h1 h2
        injection h1 with h3 h4
        subst h3 h4 h2
        refine wpAny_bind (e2 prog w _ _ ?_)
        cases c with
        | true =>
          wp_walk
          exact ⟨⟨rfl, rfl⟩, .inr (.inr ⟨rfl, rfl⟩)⟩
        | false =>
          have hr := e3 rfl prog w
          wp_walk using hr
          exact ⟨_, rfl, by simpa using hR⟩
      · cases hz
    case fin =>
      rintro ⟨k1, k2⟩ s' ⟨⟨hk, rfl⟩, hz⟩
      simp only at hk
      subst hk
      rcases hz with hz | hz | ⟨_, rfl⟩
      · cases hz
      · cases hz
      · wp_walk
        exact ⟨_, rfl, by simpa [Builtin.Tuple.tupleCompareSizes] using hR⟩
    case h =>
      exact ⟨⟨rfl, rfl⟩, .inl rfl⟩

/-! ### keys of any depth, in the abstract heap -/
mutual
inductive Nk (K : PySem.W.Frag) (H : Hp) : V → NestedKey → Prop
  | non : Nk K H .non .none
  | int (i : Int) : Nk K H (.int i) (.num i)
  | str (z : Str) : Nk K H (.str z) (.text z)
  | tup {a : Addr} {xs : List V} {ks : List NestedKey} : SqT K H a xs → NkAll K H xs ks → Nk K H (.ref a) (.tup ks)
inductive NkAll (K : PySem.W.Frag) (H : Hp) : List V → List NestedKey → Prop
  | nil : NkAll K H [] []
  | cons {x : V} {xs : List V} {k : NestedKey} {ks : List NestedKey} : Nk K H x k → NkAll K H xs ks → NkAll K H (x :: xs) (k :: ks)
end
section
variable {X : Cx} {pins : List (Addr × Obj)} {σ : L2.St} {H : Hp} {s : Shared}
mutual
theorem Nk.is (I : Inv X pins σ H s) : ∀ (k : NestedKey) (x : V) (u : Value), Nk X.K H x k → RelV x u → NestedIs s.heap k u
  | .none, _, _, h, r => by
    cases h
    cases r
    exact .none
  | .num i, _, _, h, r => by
    cases h
    obtain ⟨t, rfl⟩ := r
    exact .int i t
  | .text z, _, _, h, r => by
    cases h
    obtain ⟨t, rfl⟩ := r
    exact .text z t
  | .tup ks, _, _, h, r => by
    cases h with
    | tup hT hA =>
      cases r
      obtain ⟨its, rv, ⟨o, ho, hc, n, hd⟩, _⟩ := I.tuple hT
      exact .tup ho hc hd (Nk.isAll I ks _ _ hA rv)
theorem Nk.isAll (I : Inv X pins σ H s) : ∀ (ks : List NestedKey) (xs : List V) (us : List Value), NkAll X.K H xs ks → Vals xs us → NestedAll s.heap ks us
  | [], _, _, h, r => by
    cases h
    cases r
    exact .nil
  | k :: ks, _, _, h, r => by
    cases h with
    | cons h1 h2 =>
      cases r with
      | cons r1 r2 => exact .cons (Nk.is I k _ _ h1 r1) (Nk.isAll I ks _ _ h2 r2)
end
end
mutual
theorem Nk.same {K : PySem.W.Frag} {H H' : Hp} (e : Same H H') : ∀ (k : NestedKey) (x : V), Nk K H x k → Nk K H' x k
  | .none, _, h => by cases h; exact .non
  | .num i, _, h => by cases h; exact .int i
  | .text z, _, h => by cases h; exact .str z
  | .tup ks, _, h => by
    cases h with
    | tup hT hA => exact .tup (sameT e hT) (NkAll.same e ks _ hA)
theorem NkAll.same {K : PySem.W.Frag} {H H' : Hp} (e : Same H H') : ∀ (ks : List NestedKey) (xs : List V), NkAll K H xs ks → NkAll K H' xs ks
  | [], _, h => by cases h; exact .nil
  | k :: ks, _, h => by
    cases h with
    | cons h1 h2 => exact .cons (Nk.same e k _ h1) (NkAll.same e ks _ h2)
end
/-! ### a dict with such keys -/
abbrev NE := NestedKey × Addr × V
def NRel (p : NE) (q : NestedKey × Addr × Value) : Prop := p.1 = q.1 ∧ p.2.1 = q.2.1 ∧ RelV p.2.2 q.2.2
def NdAt (P : Program) (w : World) (a : Addr) (xs : List NE) (h : Heap) : Prop := (a == sysModules) = false ∧ xs.length ≤ sizeLine ∧ ∃ vs, Paired NRel xs vs ∧
  ∃ o es ep, h.get? a = some o ∧ (o.ExactDict ∧ o.data = .dict es ep) ∧ es.toList = vs.map (entryOfKey (nestedKind P w)) ∧ (vs.map (·.1)).Nodup
def NDct (P : Program) (w : World) (a : Addr) (xs : List NE) : HO := .ext (NdAt P w a xs)
def lookN (xs : List NE) (k : NestedKey) : Option V := (xs.find? fun x => decide (x.1 = k)).map (·.2.2)
theorem nrel_look (k : NestedKey) : ∀ {xs : List NE} {vs : List (NestedKey × Addr × Value)}, Paired NRel xs vs → RelO (lookN xs k) ((atKey vs k).map (·.2))
  | _, _, .nil => trivial
  | _, _, .cons (a := x) (b := y) (l₁ := xs) (l₂ := ys) r rs => by
    have ih := nrel_look k rs
    obtain ⟨r1, r2, r3⟩ := r
    unfold lookN atKey at ih ⊢
    rw [List.find?_cons, List.find?_cons, r1]
    by_cases e : y.1 = k
    · rw [decide_eq_true e]
      exact r3
    · rw [decide_eq_false e]
      exact ih
theorem nd_at {P : Program} {w : World} {h h' : Heap} {a : Addr} {xs : List NE} (x : NdAt P w a xs h) (k : ∀ o, h.get? a = some o → h'.get? a = some o) : NdAt P w a xs h' := by
  obtain ⟨y, z, vs, r, o, es, ep, ho, q⟩ := x
  exact ⟨y, z, vs, r, o, es, ep, k o ho, q⟩
theorem nd_obj {P : Program} {w : World} {H : Hp} {h : Heap} {a : Addr} {xs : List NE} (x : NdAt P w a xs h) : ObjOk P w H h a (NDct P w a xs) :=
  ⟨x, (let ⟨_, _, _, _, o, _, _, ho, _⟩ := x; ⟨o, ho⟩), fun _ _ p k => nd_at p k⟩
def KeysIn (K : PySem.W.Frag) (H : Hp) (xs : List NE) : Prop := ∀ x ∈ xs, Nk K H (.ref x.2.1) x.1 ∧ x.1.depth ≤ 8
theorem KeysIn.same {K : PySem.W.Frag} {H H' : Hp} {xs : List NE} (h : KeysIn K H xs) (e : Same H H') : KeysIn K H' xs := fun x hx => ⟨Nk.same e _ _ (h x hx).1, (h x hx).2⟩
section
variable {X : Cx} {pos : Pos}
/-- {}, to be such a dict -/
def tDNewN (P : Program) (w : World) : TE := fun _ H Q => ∀ p, H p = none → Q (.ref p) (upd H p (NDct P w p []))
theorem pe_dnewN : PE X (.Dict [] [] pos) (tDNewN X.prog X.w) := ⟨fun pins s σ H Q I h => by
  have nd : NdAt X.prog X.w s.heap.objs.size [] (s.heap.push { cls := .type "dict", data := .dict #[] }) :=
    ⟨beq_eq_false_iff_ne.mpr (Ne.symm (Nat.ne_of_lt I.big)), Nat.zero_le _, [], .nil, _, #[], 0, Heap.get?_push_size _ rfl, ⟨⟨rfl, rfl, rfl⟩, rfl⟩, rfl, List.nodup_nil⟩
  exact wpAny_Dict_empty ⟨.ref s.heap.objs.size, _, I.laid (t' := s.toks) (fun _ _ q => Heap.get?_push_of_some _ q) (Nat.le_refl _) (nd_obj nd), rfl, h _ (I.hok.fresh (Nat.le_refl _))⟩⟩
theorem nd_paired {xs : List NE} {vs : List (NestedKey × Addr × Value)} (r : Paired NRel xs vs) {x : NE} {y : NestedKey × Addr × Value} (r1 : NRel x y) : Paired NRel (xs ++ [x]) (vs ++ [y]) := by
  induction r with
  | nil => exact .cons r1 .nil
  | cons h _ ih => exact .cons h ih
theorem nd_mem : ∀ {xs : List NE} {vs : List (NestedKey × Addr × Value)}, Paired NRel xs vs → ∀ y ∈ vs, ∃ x ∈ xs, NRel x y
  | _, _, .nil, _, h => by cases h
  | _, _, .cons r rs, y, h => by
    rcases List.mem_cons.mp h with rfl | h
    · exact ⟨_, List.mem_cons_self, r⟩
    · obtain ⟨x, hx, e⟩ := nd_mem rs y h
      exact ⟨x, List.mem_cons_of_mem _ hx, e⟩
theorem nd_len : ∀ {xs : List NE} {vs : List (NestedKey × Addr × Value)}, Paired NRel xs vs → xs.length = vs.length
  | _, _, .nil => rfl
  | _, _, .cons _ rs => congrArg (· + 1) (nd_len rs)
theorem nd_of {pins : List (Addr × Obj)} {σ : L2.St} {H : Hp} {s : Shared} {a : Addr} {xs : List NE} (I : Inv X pins σ H s) (e : H a = some (NDct X.prog X.w a xs)) (ks : KeysIn X.K H xs) :
    (a == sysModules) = false ∧ xs.length ≤ sizeLine ∧ ∃ vs, Paired NRel xs vs ∧ s.heap.DictOfH (nestedKind X.prog X.w) a vs := by
  obtain ⟨⟨y, z, vs, r, o, es, ep, ho, ⟨hc, hd⟩, he, hn⟩, _⟩ := I.hok a _ e
  refine ⟨y, z, vs, r, o, es, ep, ho, hc, hd, he, fun v hv => ?_, hn⟩
  obtain ⟨x, hx, e1, e2, _⟩ := nd_mem r v hv
  obtain ⟨k1, k2⟩ := ks x hx
  rw [← e1, ← e2]
  exact ⟨Nk.is I _ _ _ k1 rfl, k2⟩
/-- d.setdefault(y, z) -/
def rNSet (K : PySem.W.Frag) (P : Program) (w : World) (a : Addr) (y z : V) (H : Hp) (Q : VK) : Prop := ∃ (xs : List NE) (b : Addr) (k : NestedKey), H a = some (NDct P w a xs) ∧ KeysIn K H xs ∧ y = .ref b ∧ Nk K H y k ∧ k.depth ≤ 8 ∧ xs.length < sizeLine ∧
  (∀ v, lookN xs k = some v → Q v H) ∧ (lookN xs k = none → Q z (upd H a (NDct P w a (xs ++ [(k, b, z)]))))
def tNSet (K : PySem.W.Frag) (P : Program) (w : World) (td ty tx : TE) : TE := fun σ H Q => td σ H fun d H1 => ∃ a, d = .ref a ∧ (∃ xs, H1 a = some (NDct P w a xs)) ∧ ty σ H1 fun y H2 => tx σ H2 fun z H3 => rNSet K P w a y z H3 Q
theorem pe_nset {o e f : Expr} {td ty tx : TE} {apos cpos : Pos} (ho : PE X o td) (he : PE X e ty) (hf : PE X f tx) (m : M2 X o "setdefault" apos e f cpos) (hu : X.A.units + 9 < cLine) :
    PE X (.Call (.Attribute o "setdefault" apos) [e, f] [] cpos) (tNSet X.K X.prog X.w td ty tx) := by
  constructor
  intro pins s σ H Q I h
  refine wpAny_Call_method m.base m.few m.line PySem.F.plainAttrs_dict PySem.F.slot_dict_setdefault PySem.F.type_dict_setdefault (thn (ho.run pins s σ H _ I h) ?_)
  rintro du s1 ⟨d, H1, I1, rd, a, rfl, ⟨xs0, e0⟩, q1⟩
  obtain rfl : du = Value.ref a := rd
  obtain ⟨⟨y0, _, _, _, ob, es, ep, hob, ⟨hcd, hda⟩, _⟩, _⟩ := I1.hok a _ e0
  have noD : ob.dict = none := hcd.2.1
  refine ⟨⟨ob, hob, hcd.1⟩, fun b hb => by cases hb; exact ⟨ob, hob, noD⟩, ?_⟩
  rw [m.trees]
  refine Calls.callWith_builtin rfl (Calls.evalArgs_plain (Calls.spliced_cons (thn (he.run pins s1 σ H1 _ I1 q1) ?_)))
  rintro yu s2 ⟨y, H2, I2, ry, q2⟩
  refine Calls.spliced_cons (thn (hf.run pins s2 σ H2 _ I2 q2) ?_)
  rintro zu s3 ⟨z, H3, I3, rz, xs, b, k, ea, ks, rfl, hk, hdp, hl, g1, g2⟩
  refine Calls.spliced_nil ?_
  obtain rfl : yu = Value.ref b := ry
  obtain ⟨ys, zs, vs, rel, dd⟩ := nd_of I3 ea ks
  have ln := nd_len rel
  have lk := nrel_look k rel
  refine call_setdefault_heap (knd := nestedKind X.prog X.w) (k := k) (xs := vs) (show X.A.units + 1 + 8 < cLine by omega) ⟨Nk.is I3 k _ (Value.ref b) hk rfl, hdp⟩ ys dd (fun p hp => ?_) (fun hn h' dd' sb => ?_) (by omega)
  · rw [hp] at lk
    cases q0 : lookN xs k with
    | none => rw [q0] at lk; exact lk.elim
    | some v0 =>
      rw [q0] at lk
      exact ⟨v0, H3, I3.tok _, lk, g1 v0 q0⟩
  · rw [hn] at lk
    cases q0 : lookN xs k with
    | some v0 => rw [q0] at lk; exact lk.elim
    | none =>
      rw [storedH_new hn] at dd'
      obtain ⟨o', es', ep', ho', hc', hd', he', _, hn'⟩ := dd'
      have nd : NdAt X.prog X.w a (xs ++ [(k, b, z)]) h' := ⟨ys, by rw [List.length_append, List.length_singleton]; omega, _, nd_paired rel ⟨rfl, rfl, rz⟩, o', es', ep', ho', ⟨hc', hd'⟩, he', hn'⟩
      exact ⟨z, _, I3.write (x := a) (e := a) (by rw [ea]; trivial) (.inl rfl) (fun c q hc hq => (sb.2 c hc).trans hq) ⟨o', ho'⟩ (nd_obj nd), rz, g2 q0⟩
end
end Bs
namespace Bs
open PySem L2 TL PySem.Spec PyProof.Rows PySem.SeqAt
section
variable {A : Around} {s : Shared}
theorem ltAt_pair {l b : Addr} {p q u v : Value} {c r : Bool} (hl : IsTup s.heap l #[p, q]) (hb : IsTup s.heap b #[u, v]) (e1 : EqAt A.in1 s p u true) (e2 : EqAt A.in1 s q v c) (e3 : c = false → LtAt A.in1 s q v r) (hu : A.units < cLine) :
    LtAt A s (.ref l) (.ref b) (if c then false else r) := by
  intro prog w Er Qr hq
  obtain ⟨⟨cls, dd, data, sl⟩, ho, hc, n, hd⟩ := hl
  obtain ⟨⟨cls2, dd2, data2, sl2⟩, ho2, hc2, n2, hd2⟩ := hb
  dsimp only at hc hd hc2 hd2
  cases hc; cases hd; cases hc2; cases hd2
  exact richCompare_meets_room (op := .Lt) (Q := Qr) ⟨_, ho, rfl⟩ ⟨_, ho2, rfl⟩ PySem.F.slot_tuple_lt PySem.F.entry_tuple_lt (PySem.F.args_tuple_lt_2 _ _) (pair_lt l b p q u v n n2 dd dd2 sl sl2 c r)
    ⟨⟨ho, ho2⟩, e1, e2, e3, (fun z => nomatch z), hq⟩ hu
theorem ltAt_ints {l b : Addr} {items items2 : Array Value} {ns ms : List Int} (hl : IsTup s.heap l items) (hb : IsTup s.heap b items2) (hi : IntsAre items.toList ns) (hj : IntsAre items2.toList ms) (hu : A.units < cLine) :
    LtAt A s (.ref l) (.ref b) (HT.lexLt ns ms) := fun prog w Er Qr hq => (HT.lt_tupInts hl hb hi hj hu hq : wpAny (model prog w) A (compareOp .Lt (.ref l) (.ref b)) Qr Er s)
end
theorem min_pair {prog : Program} {w : World} {A : Around} {Er : Value → Shared → Prop} {s : Shared} {a b : Value} {Q : Value → Shared → Prop} (hh : A.handled = none) (ev : Nat → List Int)
    (hlt : ∀ (s' : Shared), (∀ c o, s.heap.get? c = some o → s'.heap.get? c = some o) → ∀ i j x y, #[a, b][i]? = some x → #[a, b][j]? = some y → LtAt A.in1 s' x y (HT.lexLt (ev i) (ev j)))
    (h : ∀ h' tk, (∀ c o, s.heap.get? c = some o → h'.get? c = some o) → Q (if HT.lexLt (ev 1) (ev 0) then b else a) { s with heap := h', toks := tk }) :
    wpAny (model prog w) A (call (.builtin "min") [a, b]) Q Er s := by
  refine call_function_tree F.kind_min F.plain_min F.entry_min (F.args_min2 _ _) ?_
  have hb0 : Builtin.Builtins.bindParams "min" ["key", "default"] 0 ⟨[], []⟩ = pure [none, none] := rfl
  show wpAny _ A.in1 (Builtin.Builtins.bindParams _ _ _ _ >>= _) _ _ s
  refine wpAny_bind (wpAny_of_eq hb0 (wpAny_bind (wpAny_newObj_type ?_)))
  have sz0 : (s.heap.push { cls := .type "tuple", data := .seq #[a, b] }).objs.size = s.heap.objs.size + 1 := Heap.size_push ..
  have hT : (s.heap.push { cls := .type "tuple", data := .seq #[a, b] }).IsTuple s.heap.objs.size #[a, b] := ⟨_, Heap.get?_push_size _ rfl, rfl, 0, rfl⟩
  refine wpAny_bind (wpAny_pyIter_tuple hT (wpAny_bind (wpAny_newObj_type ?_)))
  have nm : (toString "min" ++ toString ".loop" : String) = "min.loop" := by decide
  rw [nm]
  have W := (Walks.tuple (prog := prog) (w := w) (A := A.in1) hh (s.heap.objs.size + 1) s.heap.objs.size (Nat.ne_of_lt (Nat.lt_succ_self _)) #[a, b]).toS
  refine wpAny_pure ⟨plainId_quiet F.plain_min_loop _, ?_⟩
  rw [sz0]
  have sz1 : ∀ o : Obj, ((s.heap.push { cls := .type "tuple", data := .seq #[a, b] }).push o).objs.size = s.heap.objs.size + 2 := fun o => by rw [Heap.size_push, sz0]
  have kp : ∀ (o1 o2 o3 : Obj) c o, s.heap.get? c = some o → (((s.heap.push o1).push o2).push o3).get? c = some o := fun o1 o2 o3 c o e => Heap.get?_push_of_some _ (Heap.get?_push_of_some _ (Heap.get?_push_of_some _ e))
  have nin : ∀ n c o, s.heap.objs.size ≤ n → s.heap.get? c = some o → c ≠ n := fun n c o hn e => Nat.ne_of_lt (Nat.lt_of_lt_of_le (Heap.lt_size e) hn)
  refine codeAny_min_loop_firstH W s.heap (fun c o e hm => nin _ c o (Nat.le_succ _) e (List.mem_singleton.mp hm)) (fun i j => HT.lexLt (ev i) (ev j)) (fun i j x y s' Q' E' hk hx hy hq => hlt s' hk i j x y hx hy prog w E' Q' hq) _ ?_ ?_ _ (show 0 < 2 by decide) (kp _ _ _) ?_ (Heap.get?_push_size _ rfl) ?_
  · intro hm
    rw [sz1] at hm
    rcases List.mem_cons.mp hm with e | hm
    · exact Nat.succ_ne_self _ (Nat.succ.inj e)
    · exact Nat.ne_of_gt (Nat.lt_succ_of_lt (Nat.lt_succ_self _)) (List.mem_singleton.mp hm)
  · show s.heap.get? _ = none
    cases e : s.heap.get? (((s.heap.push { cls := .type "tuple", data := .seq #[a, b] }).push { cls := .type "tuple_iterator", data := .fields #[.ref s.heap.objs.size, .int 0 0] }).objs.size) with
    | none => rfl
    | some o =>
      have := Heap.lt_size e
      rw [sz1] at this
      exact absurd (Nat.lt_of_succ_lt this) (Nat.not_lt_of_gt (Nat.lt_succ_self _))
  · refine ⟨⟨{ cls := .type "tuple_iterator", data := .fields #[.ref s.heap.objs.size, .int 0 0] }, Heap.get?_push_of_some _ ?_, rfl, rfl⟩, (hT.push _).push _⟩
    rw [← sz0]
    exact Heap.get?_push_size _ rfl
  · intro v s' hP hm
    have hv : #[a, b][if HT.lexLt (ev 1) (ev 0) then 1 else 0]? = some v := hP
    have e2 : v = if HT.lexLt (ev 1) (ev 0) then b else a := by
      by_cases hx : HT.lexLt (ev 1) (ev 0) = true
      · rw [if_pos hx] at hv ⊢
        exact (Option.some.inj hv).symm
      · rw [if_neg hx] at hv ⊢
        exact (Option.some.inj hv).symm
    have q := h s'.heap s'.toks fun c o e => hm.heap c o (fun hc => by
      rcases List.mem_cons.mp hc with z | hc
      · rw [sz1] at z
        exact nin _ c o (Nat.le_add_right _ 2) e z
      · exact nin _ c o (Nat.le_succ _) e (List.mem_singleton.mp hc)) (kp _ _ _ c o e)
    rw [e2]
    have g1 := hm.gens
    have g2 := hm.drawn
    have g3 := hm.os
    obtain ⟨hp', ge', dr', tk', os'⟩ := s'
    dsimp only at g1 g2 g3 q ⊢
    subst g1 g2 g3
    exact q

theorem nested_ints {h : Heap} : ∀ (e : List Int) (its : List Value), Vals (e.map V.int) its → NestedAll h (e.map NestedKey.num) its
  | [], _, r => by
    cases r
    exact .nil
  | x :: e, _, r => by
    cases r with
    | cons r1 r2 =>
      obtain ⟨t, rfl⟩ := r1
      exact .cons (.int x t) (nested_ints e _ r2)
theorem depth_nums : ∀ e : List Int, NestedKey.depthAll (e.map NestedKey.num) = 0
  | [] => rfl
  | x :: e => by
    rw [List.map_cons, NestedKey.depthAll, depth_nums e]
    rfl
theorem nums_inj : ∀ {e f : List Int}, e.map NestedKey.num = f.map NestedKey.num → e = f
  | [], [], _ => rfl
  | [], _ :: _, h => by cases h
  | _ :: _, [], h => by cases h
  | x :: e, y :: f, h => by
    injection h with h1 h2
    injection h1 with h3
    rw [h3, nums_inj h2]
theorem lexLt_self : ∀ e : List Int, HT.lexLt e e = false
  | [] => rfl
  | x :: e => by rw [HT.lexLt_cons, if_pos rfl, lexLt_self e]
/-- min of two pairs of a text and a tuple of ints, the texts alike -/
def rMinP (K : PySem.W.Frag) : List V → Hp → VK → Prop := fun xs H Q => ∃ (a b p q : Addr) (z : Str) (e1 e2 : List Int), xs = [.ref a, .ref b] ∧ SqT K H a [.str z, .ref p] ∧ SqT K H b [.str z, .ref q] ∧ SqT K H p (e1.map V.int) ∧ SqT K H q (e2.map V.int) ∧
  Q (if HT.lexLt e2 e1 then .ref b else .ref a) H
theorem tup_kept {s s' : Shared} {a : Addr} {its : Array Value} (k : ∀ c o, s.heap.get? c = some o → s'.heap.get? c = some o) (h : IsTup s.heap a its) : IsTup s'.heap a its := let ⟨o, ho, r⟩ := h; ⟨o, k a o ho, r⟩
theorem call_minP {X : Cx} (hc : X.calm = true) (hu : X.A.units + 64 < cLine) : CallR X (.builtin "min") (rMinP X.K) := by
  intro pins s σ H xs us Q I r h
  obtain ⟨a, b, p, q, z, e1, e2, rfl, ha, hb, hp, hq, g⟩ := h
  obtain ⟨u1, u2, rfl, r1, r2⟩ := vals2 r
  obtain rfl : u1 = Value.ref a := r1
  obtain rfl : u2 = Value.ref b := r2
  have two : ∀ (c d : Addr), SqT X.K H c [.str z, .ref d] → ∃ t, IsTup s.heap c #[.str z t, .ref d] := fun c d hcd => by
    obtain ⟨its, rr, tt, _⟩ := I.tuple hcd
    obtain ⟨v1, v2, rfl, ⟨t, rfl⟩, w2⟩ := vals2 rr
    obtain rfl : v2 = Value.ref d := w2
    exact ⟨t, tt⟩
  obtain ⟨t1, pa⟩ := two a p ha
  obtain ⟨t2, pb⟩ := two b q hb
  obtain ⟨i1, v1, pp, _⟩ := I.tuple hp
  obtain ⟨i2, v2, pq, _⟩ := I.tuple hq
  -- any two of them compared
  have cmp : ∀ (s' : Shared), (∀ c o, s.heap.get? c = some o → s'.heap.get? c = some o) → ∀ (l m c d : Addr) (t t' : Tok) (j1 j2 : List Value) (f1 f2 : List Int), IsTup s.heap l #[.str z t, .ref c] → IsTup s.heap m #[.str z t', .ref d] → IsTup s.heap c j1.toArray → IsTup s.heap d j2.toArray →
      Vals (f1.map V.int) j1 → Vals (f2.map V.int) j2 → LtAt X.A.in1 s' (.ref l) (.ref m) (HT.lexLt f1 f2) := fun s' k l m c d t t' j1 j2 f1 f2 hl hm hc' hd' w1 w2 => by
    have kc := tup_kept k hc'
    have kd := tup_kept k hd'
    have n1 : NestedIs s'.heap (.tup (f1.map NestedKey.num)) (.ref c) := let ⟨o, ho, h2, n, h3⟩ := kc; .tup ho h2 h3 (nested_ints f1 _ w1)
    have n2 : NestedIs s'.heap (.tup (f2.map NestedKey.num)) (.ref d) := let ⟨o, ho, h2, n, h3⟩ := kd; .tup ho h2 h3 (nested_ints f2 _ w2)
    have dp : ∀ f : List Int, (NestedKey.tup (f.map NestedKey.num)).depth = 1 := fun f => by
      rw [NestedKey.depth, depth_nums]
    have eq2 := eqAt_key _ _ X.A.in1.in1 s' _ _ n1 n2 (by
      rw [dp, dp]
      show X.A.units + 1 + 1 + min 1 1 < cLine
      omega)
    have eq1 : EqAt X.A.in1.in1 s' (.str z t) (.str z t') true := (EqAt.str_str z t z t').cast (by simp)
    have lt2 : LtAt X.A.in1.in1 s' (.ref c) (.ref d) (HT.lexLt f1 f2) := ltAt_ints kc kd (intsAre_of w1) (intsAre_of w2) (by
      show X.A.units + 1 + 1 < cLine
      omega)
    have := ltAt_pair (tup_kept k hl) (tup_kept k hm) eq1 eq2 (fun _ => lt2) (by show X.A.units + 1 < cLine; omega)
    cases hbq : NestedKey.beq (.tup (f1.map NestedKey.num)) (.tup (f2.map NestedKey.num)) with
    | true =>
      rw [hbq] at this
      have e := NestedKey.eq_of_beq _ _ hbq
      injection e with e
      rw [nums_inj e, lexLt_self]
      exact this
    | false =>
      rw [hbq] at this
      exact this
  refine min_pair (I.ok.hd hc) (fun i => if i = 0 then e1 else e2) (fun s' k i j x y hx hy => ?_) fun h' tk k => ⟨_, H, I.kept k, ?_, g⟩
  · have sp : ∀ (i : Nat) (x : Value), (#[Value.ref a, Value.ref b] : Array Value)[i]? = some x → (i = 0 ∧ x = .ref a) ∨ (i = 1 ∧ x = .ref b) := fun i x hx => by
      match i with
      | 0 => exact .inl ⟨rfl, (Option.some.inj hx).symm⟩
      | 1 => exact .inr ⟨rfl, (Option.some.inj hx).symm⟩
      | n + 2 => simp at hx
    rcases sp i x hx with ⟨rfl, rfl⟩ | ⟨rfl, rfl⟩ <;> rcases sp j y hy with ⟨rfl, rfl⟩ | ⟨rfl, rfl⟩
    · exact cmp s' k _ _ _ _ _ _ _ _ _ _ pa pa pp pp v1 v1
    · exact cmp s' k _ _ _ _ _ _ _ _ _ _ pa pb pp pq v1 v2
    · exact cmp s' k _ _ _ _ _ _ _ _ _ _ pb pa pq pp v2 v1
    · exact cmp s' k _ _ _ _ _ _ _ _ _ _ pb pb pq pq v2 v2
  · show RelV (if HT.lexLt e2 e1 = true then V.ref b else V.ref a) (if HT.lexLt e2 e1 = true then Value.ref b else Value.ref a)
    split <;> rfl
theorem units9 {k : Nat} {A : Around} (r : Room k A) : A.units + 9 < cLine := by
  have := r.units
  omega
theorem cxP {CX : CXT} {P : Program} {w : World} {K : PySem.W.Frag} {mg : Str → Option Value} {base : Heap} {N : List Str} {qual : Str} {scope : Scope} {f : Addr} {cd : Value} {A : Around} {outer : List Env} {s : Shared} {H : Hp} {E : XK} : (cxOf CX P w K mg base N qual scope f cd A outer s H E).prog = P := rfl
theorem cxW {CX : CXT} {P : Program} {w : World} {K : PySem.W.Frag} {mg : Str → Option Value} {base : Heap} {N : List Str} {qual : Str} {scope : Scope} {f : Addr} {cd : Value} {A : Around} {outer : List Env} {s : Shared} {H : Hp} {E : XK} : (cxOf CX P w K mg base N qual scope f cd A outer s H E).w = w := rfl
/-- blocks within statements -/
def forB : Stmt → List Stmt
  | .For _ _ b _ _ => b
  | _ => []
def ifB : Stmt → List Stmt
  | .If _ b _ _ => b
  | _ => []
def elB : Stmt → List Stmt
  | .If _ _ b _ => b
  | _ => []
def stAt (l : List Stmt) (i : Nat) : Stmt := l.getD i (.Pass ⟨0, 0, 0, 0⟩)
/-! ### tuples with equal items: neither is less -/
theorem alike_lt (l b : Addr) (items items2 : Array Value) (n n2 : Nat) (dd dd2 : Option Addr) (sl sl2 : Array (Option Value)) (hsz : items.size = items2.size) :
    Meets (Builtin.«tuple.__lt__» ⟨[.ref l, .ref b], []⟩)
      (fun A R s => (s.heap.get? l = some { cls := .type "tuple", dict := dd, data := .seq items n, slots := sl } ∧ s.heap.get? b = some { cls := .type "tuple", dict := dd2, data := .seq items2 n2, slots := sl2 }) ∧
        (∀ p ∈ items.toList.zip items2.toList, EqAt A.in1 s p.1 p.2 true) ∧ R (.ok (.ret (.bool false))) s) :=
  .of_wp fun prog w A R s h => by
    obtain ⟨hp, g, d, tk, os⟩ := s
    obtain ⟨⟨hl, hb⟩, he, hR⟩ := h
    have f2 := AutoSeq1.sub_tuple_tuple
    wp_walk using AutoSeq1.wpAny_loadPart' hl, AutoSeq1.wpAny_loadPart' hb, wpAny_forIn_list _ (fun rest k s' => (k.1 = none ∧ s' = ⟨hp, g, d, tk, os⟩) ∧ ∀ p ∈ rest, p ∈ items.toList.zip items2.toList) _
    case turn =>
      rintro ⟨y, x⟩ rest k s' ⟨⟨hk, rfl⟩, hz⟩
      have e1 := he _ (hz _ List.mem_cons_self)
      refine wpAny_bind (e1 prog w _ _ ?_)
      wp_walk
      exact ⟨⟨rfl, rfl⟩, fun p hp' => hz p (List.mem_cons_of_mem _ hp')⟩
    case fin =>
      rintro ⟨k1, k2⟩ s' ⟨⟨hk, rfl⟩, hz⟩
      simp only at hk
      subst hk
      wp_walk
      exact ⟨_, rfl, by simpa [Builtin.Tuple.tupleCompareSizes, hsz] using hR⟩
    case h =>
      exact ⟨⟨rfl, rfl⟩, fun p hp' => hp'⟩
theorem ltAt_alike {A : Around} {s : Shared} {l b : Addr} {items items2 : Array Value} (hl : IsTup s.heap l items) (hb : IsTup s.heap b items2) (hsz : items.size = items2.size) (he : ∀ p ∈ items.toList.zip items2.toList, EqAt A.in1 s p.1 p.2 true) (hu : A.units < cLine) :
    LtAt A s (.ref l) (.ref b) false := by
  intro prog w Er Qr hq
  obtain ⟨⟨cls, dd, data, sl⟩, ho, hc, n, hd⟩ := hl
  obtain ⟨⟨cls2, dd2, data2, sl2⟩, ho2, hc2, n2, hd2⟩ := hb
  dsimp only at hc hd hc2 hd2
  cases hc; cases hd; cases hc2; cases hd2
  exact richCompare_meets_room (op := .Lt) (Q := Qr) ⟨_, ho, rfl⟩ ⟨_, ho2, rfl⟩ PySem.F.slot_tuple_lt PySem.F.entry_tuple_lt (PySem.F.args_tuple_lt_2 _ _) (alike_lt l b items items2 n n2 dd dd2 sl sl2 hsz)
    ⟨⟨ho, ho2⟩, he, (fun z => nomatch z), hq⟩ hu
mutual
theorem nested_kept {h h' : Heap} (k : ∀ c o, h.get? c = some o → h'.get? c = some o) : ∀ (x : NestedKey) (v : Value), NestedIs h x v → NestedIs h' x v
  | .none, _, q => by cases q; exact .none
  | .num i, _, q => by
    cases q with
    | bool e => exact .bool e
    | int _ t => exact .int _ t
  | .text z, _, q => by cases q; exact .text _ _
  | .tup ks, _, q => by
    cases q with
    | tup h1 h2 h3 h4 => exact .tup (k _ _ h1) h2 h3 (nested_keptAll k ks _ h4)
theorem nested_keptAll {h h' : Heap} (k : ∀ c o, h.get? c = some o → h'.get? c = some o) : ∀ (xs : List NestedKey) (vs : List Value), NestedAll h xs vs → NestedAll h' xs vs
  | [], _, q => by cases q; exact .nil
  | x :: xs, _, q => by
    cases q with
    | cons h1 h2 => exact .cons (nested_kept k x _ h1) (nested_keptAll k xs _ h2)
end
theorem depth_all_le : ∀ (ks : List NestedKey) (k : NestedKey), k ∈ ks → k.depth ≤ NestedKey.depthAll ks
  | [], _, h => by cases h
  | x :: r, k, h => by
    rw [NestedKey.depthAll]
    rcases List.mem_cons.mp h with rfl | h
    · omega
    · have := depth_all_le r k h
      omega
theorem zip_same {h h' : Heap} : ∀ (ks : List NestedKey) (vs ws : List Value), NestedAll h ks vs → NestedAll h' ks ws → (vs.length = ws.length) ∧ ∀ p ∈ vs.zip ws, ∃ k ∈ ks, NestedIs h k p.1 ∧ NestedIs h' k p.2
  | [], _, _, a, b => by
    cases a
    cases b
    exact ⟨rfl, fun p hp => by cases hp⟩
  | k :: ks, _, _, a, b => by
    cases a with
    | cons a1 a2 =>
      cases b with
      | cons b1 b2 =>
        obtain ⟨h1, h2⟩ := zip_same ks _ _ a2 b2
        refine ⟨congrArg (· + 1) h1, fun p hp => ?_⟩
        rw [List.zip_cons_cons] at hp
        rcases List.mem_cons.mp hp with rfl | hp
        · exact ⟨k, List.mem_cons_self, a1, b1⟩
        · obtain ⟨k', hk, q⟩ := h2 p hp
          exact ⟨k', List.mem_cons_of_mem _ hk, q⟩
/-- min of two equal tuples: the first -/
def rMinE (K : PySem.W.Frag) : List V → Hp → VK → Prop := fun xs H Q => ∃ (a b : Addr) (ks : List NestedKey), xs = [.ref a, .ref b] ∧ Nk K H (.ref a) (.tup ks) ∧ Nk K H (.ref b) (.tup ks) ∧ NestedKey.depthAll ks ≤ 8 ∧ Q (.ref a) H
theorem call_minE {X : Cx} (hc : X.calm = true) (hu : X.A.units + 64 < cLine) : CallR X (.builtin "min") (rMinE X.K) := by
  intro pins s σ H xs us Q I r h
  obtain ⟨a, b, ks, rfl, ha, hb, hd, g⟩ := h
  obtain ⟨u1, u2, rfl, r1, r2⟩ := vals2 r
  obtain rfl : u1 = Value.ref a := r1
  obtain rfl : u2 = Value.ref b := r2
  have n1 := Nk.is I _ _ (Value.ref a) ha rfl
  have n2 := Nk.is I _ _ (Value.ref b) hb rfl
  have cmp : ∀ (s' : Shared), (∀ c o, s.heap.get? c = some o → s'.heap.get? c = some o) → ∀ (l m : Addr), NestedIs s.heap (.tup ks) (.ref l) → NestedIs s.heap (.tup ks) (.ref m) → LtAt X.A.in1 s' (.ref l) (.ref m) false := fun s' k l m h1 h2 => by
    have h1' := nested_kept k _ _ h1
    have h2' := nested_kept k _ _ h2
    cases h1' with
    | tup a1 a2 a3 a4 =>
      cases h2' with
      | tup b1 b2 b3 b4 =>
        obtain ⟨ln, zz⟩ := zip_same ks _ _ a4 b4
        refine ltAt_alike ⟨_, a1, a2, _, a3⟩ ⟨_, b1, b2, _, b3⟩ (by simpa using ln) (fun p hp => ?_) (by show X.A.units + 1 < cLine; omega)
        obtain ⟨k', hk, q1, q2⟩ := zz p hp
        have dk := depth_all_le ks k' hk
        exact (eqAt_key k' k' X.A.in1.in1 s' _ _ q1 q2 (by show X.A.units + 1 + 1 + min _ _ < cLine; omega)).cast (NestedKey.beq_self k')
  refine min_pair (I.ok.hd hc) (fun _ => []) (fun s' k i j x y hx hy => ?_) fun h' tk k => ⟨.ref a, H, I.kept k, rfl, g⟩
  have sp : ∀ (i : Nat) (x : Value), (#[Value.ref a, Value.ref b] : Array Value)[i]? = some x → x = .ref a ∨ x = .ref b := fun i x hx => by
    match i with
    | 0 => exact .inl (Option.some.inj hx).symm
    | 1 => exact .inr (Option.some.inj hx).symm
    | n + 2 => simp at hx
  rcases sp i x hx with rfl | rfl <;> rcases sp j y hy with rfl | rfl
  · exact cmp s' k _ _ n1 n1
  · exact cmp s' k _ _ n1 n2
  · exact cmp s' k _ _ n2 n1
  · exact cmp s' k _ _ n2 n2
theorem call_minQ {X : Cx} (hc : X.calm = true) (hu : X.A.units + 64 < cLine) : CallR X (.builtin "min") (fun xs H Q => rMinP X.K xs H Q ∨ rMinE X.K xs H Q) := by
  intro pins s σ H xs us Q I r h
  rcases h with h | h
  · exact call_minP hc hu pins s σ H xs us Q I r h
  · exact call_minE hc hu pins s σ H xs us Q I r h
end Bs
namespace Bs
open PySem L2 TL
/-! ### x + (..) where the class of x has its own __add__ -/
/-- what the written part says of the class C, whose __add__ is the function at f -/
structure AddC (K : PySem.W.Frag) (C f : Addr) : Prop where
  first : PySem.W.selfFirst K C = true
  at_ : PySem.W.findIn K (.ref C) "__add__" = some (some (.ref f))
  fn : PySem.W.isFn K (.ref f) = true
  radd : PySem.W.findIn K (.ref C) "__radd__" = some none
  tadd : PySem.W.findIn K (.type "tuple") "__add__" = some (some (.builtin "tuple.__add__"))
  trad : PySem.W.findIn K (.type "tuple") "__radd__" = some none
  sub : PySem.W.subIn K (.type "tuple") (.ref C) = some false
def rAddO (K : PySem.W.Frag) (C : Addr) (sp : Sp) : R2 := fun x y H Q => ∃ a dx fs t xs, x = .ref a ∧ H a = some (.ins C dx fs) ∧ y = .ref t ∧ SqT K H t xs ∧ sp [.ref a, .ref t] H (fun v H' => ∃ b, v = .ref b ∧ Q (.ref b) H') (fun _ _ _ => False)
section
variable {X : Cx} {CX : CXT} {k : Nat} {f C : Addr} {fd : FuncData} {ps : List Str} {sp : Sp}
open PySem.W in
theorem op_addO (S : AddC X.K C f) (F : FnOk X.prog X.w X.K X.mg X.base CX k f fd ps sp) (hr : Room k X.A) (hb : Binds X.K fd ps []) (hx : Passes CX X (fun _ _ _ => False)) : OpR X (binaryOp .Add) (rAddO X.K C sp) := by
  intro pins s σ H x y v u Q I rx ry h
  obtain ⟨a, dx, fs, t, xs, rfl, ha, rfl, hT, q⟩ := h
  cases rx
  cases ry
  obtain ⟨mA, J, _⟩ := ins_get I.hok ha
  obtain ⟨od, J, _⟩ := J.look
  obtain ⟨its, rt, ⟨ot, ho, hc, _⟩, hs⟩ := I.tuple hT
  have hcall := run_fn (us := [.ref a, .ref t]) (vs := [.ref a, .ref t]) F hr hb .nil hx I (.cons rfl (.cons rfl .nil)) q
  have one := ksp_try (name := "__add__") (Q := EP X pins σ Q) I.kIn J S.at_ S.fn (wpAny_mono hcall (fun v s' hv => by
    obtain ⟨z, H', I', rz, b, rfl, q⟩ := hv
    cases rz
    exact ⟨.ref b, H', I', rfl, q⟩) fun _ _ e => e)
  obtain ⟨cd, rest, hcd, hm⟩ := ksp_first S.first
  have KX := I.kIn
  obtain ⟨hh, g, d, tt, os⟩ := s
  have L1 : Looks (model X.prog X.w) hh (typeOf (.ref a)) (.ref C) := J.type
  have L2 : Looks (model X.prog X.w) hh (typeOf (.ref t)) (.type "tuple") := fun A Q E s k q => wpAny_typeOf_ref (k _ _ ho) (by rw [hc]; exact q)
  have e1 : PySem.dunder "add" = "__add__" := by decide +kernel
  have e2 : dunderR "add" = "__radd__" := by decide +kernel
  have L3 : Looks (model X.prog X.w) hh (fillsNumberSlot (.ref C) "add") true := fills_K KX hcd hm (by rw [e1]; exact S.at_)
  have eq : (((some (Value.builtin "tuple.__add__")).isSome && !isSeqSlot (some (Value.builtin "tuple.__add__"))) || ((none : Option Value).isSome && !isSeqSlot none)) = false := by decide +kernel
  have L4 : Looks (model X.prog X.w) hh (fillsNumberSlot (.type "tuple") "add") false := by
    have h4 := ksp_fillsT (M := model X.prog X.w) (T := "tuple") (nm := "add") (h := hh) (fo := some (.builtin "tuple.__add__")) (ro := none) KX (by rw [e1]; exact S.tadd) (by rw [e2]; exact S.trad)
    rw [eq] at h4
    exact h4
  have hne : (Value.ref C == Value.type "tuple") = false := rfl
  have L8 : Looks (model X.prog X.w) hh (typeLookup (.type "tuple") (dunderR "add")) none := looks_findIn KX (by rw [e2]; exact S.trad)
  show wpAny _ _ (binaryOp .Add (.ref a) (.ref t)) _ _ _
  simp only [binaryOp, Operator.info]
  refine wpAny_holding (wpAny_bind ?_)
  unfold binaryOp1
  simp only [e1] at *
  refine wpAny_bind (L1.at (wpAny_bind (L2.at (wpAny_bind (L3.at ?_)))))
  simp only [hne, Bool.false_eq_true, if_false]
  ksp_lk
  refine wpAny_mono one (fun r s' hr' => ?_) fun _ _ e => e
  obtain ⟨v, rfl, hq⟩ := hr'
  ksp_lk
  exact hq
/-- a field read within a comprehension -/
theorem pe_fldK {K : PySem.W.Frag} {e : Expr} {g : Str} {pos : Pos} {ta : TE} (he : PE X e ta) (hb : attributeBase e g X.env (eval e X.env) = eval e X.env) (hk : X.K = K) : PE X (.Attribute e g pos) (tFld K ta g) := hk ▸ pe_fld he hb
end
end Bs
namespace Bs
open PySem PySem.Spec PyProof.Rows L2 TL
open AutoSeq1 (wpAny_loadPart')
/-! ### enumerate of a tuple -/
abbrev enH (h : Heap) (l : Addr) : Heap := (h.push { cls := .type "tuple_iterator", data := .fields #[.ref l, .int 0 0] }).push { cls := .type "enumerate", data := .fields #[.none, .bool false, .ref h.objs.size, rawInt 0, .none, .none] }
theorem meets_enT (l : Addr) (xs : Array Value) : Meets (Builtin.«enumerate.__new__» ⟨[.type "enumerate", .ref l], []⟩) (fun _ R s => s.heap.IsTuple l xs ∧
      R (.ok (.ret (.ref (s.heap.objs.size + 1)))) { s with heap := enH s.heap l }) :=
  .of_wp fun prog w A R s h => by
    obtain ⟨hp, g, d, tk, os⟩ := s
    obtain ⟨hl, h⟩ := h
    have hsub := sub_enumerate
    have hL : Heap.IsTuple (Shared.heap ⟨hp, g, d, tk, os⟩) l xs := hl
    obtain ⟨ob, ho, hc, n, hd⟩ := id hl
    obtain ⟨c0, dct, dt, sl⟩ := ob
    replace hc : c0 = .type "tuple" := hc
    replace hd : dt = .seq xs n := hd
    subst hc hd
    have hz : (hp.push { cls := .type "tuple_iterator", data := .fields #[.ref l, .int 0 0] }).objs.size = hp.objs.size + 1 := Heap.size_push ..
    rw [show (Shared.heap ⟨hp, g, d, tk, os⟩) = hp from rfl, ← hz] at h
    wp_walk using wpAny_loadPart' ho
    refine wpAny_stack_any fun st => wpAny_pure ?_
    split
    · rename_i c _ _ _ _ _
      cases (c == Value.type "enumerate")
      · wp_walk using wpAny_loadPart' ho, wpAny_pyIter_tuple hL
        exact ⟨_, rfl, h⟩
      · wp_walk using wpAny_loadPart' ho, wpAny_pyIter_tuple hL
        exact ⟨_, rfl, h⟩
    · wp_walk using wpAny_loadPart' ho, wpAny_pyIter_tuple hL
      exact ⟨_, rfl, h⟩
section
variable {prog : Program} {w : World} {A : Around} {E : Value → Shared → Prop} {s : Shared}
theorem call_enT {l : Addr} {xs : Array Value} {Q : Value → Shared → Prop} (hl : s.heap.IsTuple l xs)
    (h : ∀ h', IsEnum h' (s.heap.objs.size + 1) s.heap.objs.size 0 .none → h'.IsTupleIter s.heap.objs.size l 0 → (∀ b o, s.heap.get? b = some o → h'.get? b = some o) → Q (.ref (s.heap.objs.size + 1)) { s with heap := h' }) :
    wpAny (model prog w) A (call (.type "enumerate") [.ref l]) Q E s := by
  refine callType_new F.called_enumerate (by decide) (F.typeCall_enumerate_1 _) (F.newCall_enumerate_1 _) (fun obj => F.args_object_init_2 obj _) F.entry_enumerate_new (meets_enT l xs) ⟨hl, ?_⟩
  have hz : (s.heap.push { cls := .type "tuple_iterator", data := .fields #[.ref l, .int 0 0] }).objs.size = s.heap.objs.size + 1 := Heap.size_push ..
  have he : IsEnum (enH s.heap l) (s.heap.objs.size + 1) s.heap.objs.size 0 .none := by
    have := Heap.get?_push_size (s.heap.push { cls := .type "tuple_iterator", data := .fields #[.ref l, .int 0 0] })
      (o := { cls := .type "enumerate", data := .fields #[.none, .bool false, .ref s.heap.objs.size, rawInt 0, .none, .none] }) rfl
    rw [hz] at this
    exact this
  show _ ∧ _
  exact ⟨⟨_, he, rfl⟩, h _ he ⟨_, Heap.get?_push_of_some _ (Heap.get?_push_size _ rfl), rfl, rfl⟩ fun b o x => Heap.get?_push_of_some _ (Heap.get?_push_of_some _ x)⟩
end
theorem draws_tup {prog : Program} {w : World} {A : Around} (it l : Addr) (hne : l ≠ it) (items : Array Value) (hh : A.handled = none) :
    Draws prog w A it [it, l] items.size (fun i v => items[i]? = some v) (fun i h => h.IsTupleIter it l i ∧ h.IsTuple l items) where
  live := fun _ _ st => let ⟨o, ho, _⟩ := st.1; ⟨o, ho⟩
  frame := fun _ _ _ st hk => ⟨st.1.at fun o e => hk it (by simp) o e, let ⟨o, ho, r⟩ := st.2; ⟨o, hk l (by simp) o ho, r⟩⟩
  item := fun i s Q E hi st hQ => by
    refine RZ.nextOf_tuple_item st.1 st.2 (x := items[i]) (by simp [hi]) fun h' hit' hs' => ?_
    obtain ⟨o, ho, r⟩ := st.2
    exact hQ _ h' s.toks (by simp [hi]) ⟨hit', o, hs'.extBut l o hne ho, r⟩ hs'
  done := fun s Q E st hE => RZ.nextOf_tuple_end hh st.1 st.2 (by simp) hE
/-- .. at its end, wherever it stands behind the items -/
theorem draws_end {prog : Program} {w : World} {A : Around} (it l : Addr) (i : Nat) (items : Array Value) (hh : A.handled = none) (hi : items[i]? = none) :
    Draws prog w A it [it, l] i (fun _ _ => True) (fun j h => j = i ∧ h.IsTupleIter it l i ∧ h.IsTuple l items) where
  live := fun _ _ st => let ⟨o, ho, _⟩ := st.2.1; ⟨o, ho⟩
  frame := fun _ _ _ st hk => ⟨st.1, st.2.1.at fun o e => hk it (by simp) o e, let ⟨o, ho, r⟩ := st.2.2; ⟨o, hk l (by simp) o ho, r⟩⟩
  item := fun j s Q E hj st _ => absurd st.1 (Nat.ne_of_lt hj)
  done := fun s Q E st hE => RZ.nextOf_tuple_end hh st.2.1 st.2.2 hi hE
/-- the tuple at a as it stands at each turn, each item in a new pair -/
def IteT (K : PySem.W.Frag) (a : Addr) : It :=
  ⟨fun i H => ∃ (xs : List V) (x : V), SqT K H a xs ∧ xs[i]? = some x, fun i H v H' => ∃ T x, v = .ref T ∧ H T = none ∧ H' = upd H T (.tup [.int (i : Nat), x]) ∧ ∀ xs, SqT K H a xs → xs[i]? = some x, fun i H => ∃ xs : List V, SqT K H a xs ∧ xs.length ≤ i⟩
theorem enum_ne {h : Heap} {e it a : Addr} {i : Int} {old : Value} {xs : Array Value} (he : IsEnum h e it i old) (p : IsTup h a xs) : e ≠ a := fun z => by
  subst z
  obtain ⟨o, ho, hc, _⟩ := p
  have he' : h.get? e = some _ := he
  rw [ho] at he'
  cases he'
  exact absurd (show Value.type "enumerate" = Value.type "tuple" from hc) (by decide)
theorem titer_ne {h : Heap} {it a : Addr} {i : Nat} {xs : Array Value} (hit : h.IsTupleIter it a i) (p : IsTup h a xs) : a ≠ it := fun z => by
  subst z
  obtain ⟨o, ho, hc, _⟩ := p
  obtain ⟨o2, ho2, hc2, _⟩ := hit
  rw [ho] at ho2
  cases ho2
  rw [hc] at hc2
  exact absurd hc2 (by decide)
theorem turn_enT {P : Program} {w : World} {K : PySem.W.Frag} {elts : List Expr} {kk : Nat} {tpos : Pos} (a e it : Addr) :
    L2.Turn P w K (.Tuple elts kk tpos) (IteT K a) [e, it] e (fun i h => (∃ old, IsEnum h e it ((i : Nat) : Int) old) ∧ h.IsTupleIter it a i ∧ e ≠ it) where
  mem := by simp
  obj := fun i h st b hb => by
    obtain ⟨⟨old, he⟩, ⟨o, ho, hc, hd⟩, _⟩ := st
    have e' : b = e ∨ b = it := by simpa using hb
    rcases e' with z | z
    · rw [z]; exact ⟨_, he, fun v q => nomatch q⟩
    · rw [z]; exact ⟨o, ho, fun v q => by rw [hd] at q; cases q⟩
  keep := fun i h h' st k => let ⟨⟨old, he⟩, hi, hne⟩ := st; ⟨⟨old, k e (by simp) _ he⟩, hi.at fun o q => k it (by simp) o q, hne⟩
  item := by
    intro X hP hw hK hc i pins s σ H E I hf st hg
    subst hP hw hK
    obtain ⟨⟨old, he⟩, hit, hne⟩ := st
    obtain ⟨xs, x, hq, hx⟩ := hg
    obtain ⟨its, rv, p, hz⟩ := I.tuple hq
    obtain ⟨u, hu, ru⟩ := rv.get hx
    have hel : e < s.heap.objs.size := Heap.lt_size he
    have hil : it < s.heap.objs.size := by obtain ⟨_, q, _⟩ := hit; exact Heap.lt_size q
    have hu' : its.toArray[i]? = some u := by simpa using hu
    have hlt : i < its.toArray.size := (Array.getElem?_eq_some_iff.mp hu').1
    have hea := enum_ne he p
    refine wpAny_pyNext_enum_itemD (draws_tup it a (titer_ne hit p) its.toArray (show X.A.in1.handled = none from I.ok.hd hc)) he ⟨hit, p⟩ hlt hne (by simp [hne, hea]) fun x' h' tk hx' ho hst' hT hsz hk => ?_
    rw [hu'] at hx'
    cases hx'
    refine ⟨_, rfl, wpAny_letOwnedTupleGo_enum (s := { s with heap := h', toks := tk + 1 }) ho fun h'' he' sb => ?_⟩
    have hT2 : h''.get? s.heap.objs.size = some { cls := .type "tuple", data := .seq #[.int i tk, u] } := (sb.2 _ (Nat.ne_of_gt hel)).trans hT
    have new : ObjOk X.prog X.w (upd H s.heap.objs.size (.tup [.int (i : Nat), x])) h'' s.heap.objs.size (.tup [.int (i : Nat), x]) :=
      ⟨by show 2 ≤ sizeLine; decide, [.int i tk, u], .cons ⟨_, rfl⟩ (.cons ru .nil), ⟨_, hT2, rfl, _, rfl⟩⟩
    have I1 : Inv X pins σ (upd H s.heap.objs.size (.tup [.int (i : Nat), x])) { s with heap := h'', toks := tk + 1 } :=
      I.turnedNew (ch := [e, it]) (fun b ob hb q => (sb.2 b (fun z => hb (by simp [z]))).trans (hk b ob (fun z => hb (by simp [z])) (fun z => hb (by simp [z])) q)) hf (Nat.le_refl _) new
    refine ⟨.ref s.heap.objs.size, _, I1, rfl, ⟨_, x, rfl, I.hok.fresh (Nat.le_refl _), rfl, fun ys hy => by rw [I.tuple_inj hy hq]; exact hx⟩, ⟨⟨u, ?_⟩, hst'.1.at fun o q => (sb.2 it (Ne.symm hne)).trans q, hne⟩, fun b hb => ?_⟩
    · have e1 : ((i + 1 : Nat) : Int) = (i : Int) + 1 := by omega
      rw [e1]; exact he'
    · have hb' : b < s.heap.objs.size := by
        have e' : b = e ∨ b = it := by simpa using hb
        rcases e' with z | z
        · rw [z]; exact hel
        · rw [z]; exact hil
      rw [upd_ne (Nat.ne_of_lt hb')]
      exact (hf b hb).1
  done := by
    intro X hP hw hK hc i pins s σ H E I hf st hg
    subst hP hw hK
    obtain ⟨⟨old, he⟩, hit, hne⟩ := st
    obtain ⟨xs, hq, hx⟩ := hg
    obtain ⟨its, rv, p, hz⟩ := I.tuple hq
    obtain ⟨f0, f1, f2, f3, f4, f5⟩ := hf it (by simp)
    have hl := rv.length
    exact wpAny_pyNext_enum_endD (draws_end it a i its.toArray (show X.A.in1.handled = none from I.ok.hd hc) (by simp; omega)) he ⟨rfl, hit, p⟩ fun h' eb => ⟨rfl, I.turned (t' := s.toks) (fun b o hb q => eb b o hb q) f0 f1 f3 f4 f5⟩
  self := fun A i s Q E st h => let ⟨⟨_, he⟩, _⟩ := st; wpAny_pyIter_enum he h
def iEnumT (K : PySem.W.Frag) (ta : TA) : TI := fun σ H R => ta σ H fun vs H1 => ∃ a xs, vs = [.ref a] ∧ SqT K H1 a xs ∧ R (IteT K a) H1
theorem pi_enumT {X : Cx} {e : Expr} {ta : TA} {p pos tpos : Pos} {elts : List Expr} {kk : Nat} (hg : Gl X "enumerate") (hm : X.mg "enumerate" = none) (ha : PA X [e] ta) (hs : starEach [e] X.env = [(false, eval e X.env)] := by rfl) :
    PI X (.Tuple elts kk tpos) (.Call (.Name "enumerate" p) [e] [] pos) (iEnumT X.K ta) := by
  refine ⟨fun pins s σ H R I h => ?_⟩
  refine Call_ (ld_blt I hg hm boot_enumerate (PyProof.Rows.callWith_type1 (thn (ha.run pos pins s σ H _ I h) fun us s1 ⟨vs, H1, I1, r1, q1⟩ => ?_) hs rfl))
  obtain ⟨a, xs, ex, hq, q⟩ := q1
  subst ex
  cases r1 with
  | cons r rr =>
    cases rr
    cases r
    obtain ⟨its, rv, p', hz⟩ := I1.tuple hq
    refine call_enT (show s1.heap.IsTuple a its.toArray from p') fun h' he hit hk => wpAny_pyIter_enum he ?_
    have I2 : Inv X pins σ H1 { s1 with heap := h' } := I1.kept (t' := s1.toks) hk
    refine ⟨s1.heap.objs.size + 1, [s1.heap.objs.size + 1, s1.heap.objs.size], _, _, H1, rfl, I2, turn_enT a (s1.heap.objs.size + 1) s1.heap.objs.size, ⟨⟨.none, he⟩, hit, Nat.succ_ne_self _⟩, fun b hb => ?_, q⟩
    have e' : b = s1.heap.objs.size + 1 ∨ b = s1.heap.objs.size := by simpa using hb
    have hle : s1.heap.objs.size ≤ b := by
      rcases e' with z | z
      · rw [z]; exact Nat.le_add_right _ _
      · rw [z]; exact Nat.le_refl _
    exact I1.fpOk hle (I1.hok.fresh hle)
theorem walk_enT {K : PySem.W.Frag} {a : Addr} {xs : List V} : Walk (IteT K a) xs.length (fun H => SqT K H a xs) (YPair (fun i => some (.int (i : Nat))) (fun i => xs[i]?)) := by
  refine ⟨fun i _ hi q => ⟨xs, xs[i], q, by simp [hi]⟩, fun _ q => ⟨xs, q, Nat.le_refl _⟩, fun i H v H' _ q y => ?_⟩
  obtain ⟨T, x, h1, h2, h3, h4⟩ := y
  exact ⟨T, .int (i : Nat), x, h1, h2, h3, rfl, h4 xs q⟩
end Bs
namespace Bs
open PySem PySem.Spec PyProof.Rows L2 TL
/-! ### zip of a tuple and a list -/
abbrev zmH1 (h : Heap) (l1 : Addr) : Heap := h.push { cls := .type "tuple_iterator", data := .fields #[.ref l1, .int 0 0] }
abbrev zmH2 (h : Heap) (l1 l2 : Addr) : Heap := (zmH1 h l1).push { cls := .type "list_iterator", data := .fields #[.ref l2, .int 0 0] }
abbrev zmH3 (h : Heap) (l1 l2 : Addr) : Heap := (zmH2 h l1 l2).push { cls := .type "tuple", data := .seq #[.ref h.objs.size, .ref (zmH1 h l1).objs.size] }
abbrev zmH4 (h : Heap) (l1 l2 : Addr) : Heap := (zmH3 h l1 l2).push { cls := .type "tuple", data := .seq #[.none, .none] }
abbrev zmH5 (h : Heap) (l1 l2 : Addr) : Heap := (zmH4 h l1 l2).push { cls := .type "zip", data := .fields #[.none, .bool false, .bool false, .ref (zmH2 h l1 l2).objs.size, .ref (zmH3 h l1 l2).objs.size] }
theorem meets_zipM (l1 l2 : Addr) (xs ys : Array Value) :
    Meets (Builtin.«zip.__new__» ⟨[.type "zip", .ref l1, .ref l2], []⟩) (fun _ R s => s.heap.IsTuple l1 xs ∧ s.heap.IsList l2 ys ∧
      R (.ok (.ret (.ref (zmH4 s.heap l1 l2).objs.size))) { s with heap := zmH5 s.heap l1 l2 }) :=
  .of_wp fun prog w A R s h => by
    obtain ⟨hp, g, d, tk, os⟩ := s
    obtain ⟨hl1, hl2, h⟩ := h
    have hsub := sub_zip
    have hL1 : Heap.IsTuple (Shared.heap ⟨hp, g, d, tk, os⟩) l1 xs := hl1
    have hL2 : Heap.IsList (Shared.heap ⟨hp.push { cls := .type "tuple_iterator", data := .fields #[.ref l1, .int 0 0] }, g, d, tk, os⟩) l2 ys := by
      obtain ⟨o, ho, r⟩ := hl2
      exact ⟨o, Heap.get?_push_of_some _ ho, r⟩
    wp_walk using wpAny_pyIter_tuple hL1, wpAny_pyIter_list hL2
    exact ⟨_, rfl, h⟩
section
variable {prog : Program} {w : World} {A : Around} {E : Value → Shared → Prop} {s : Shared}
theorem call_zipM {l1 l2 : Addr} {xs ys : Array Value} {Q : Value → Shared → Prop} (hl1 : s.heap.IsTuple l1 xs) (hl2 : s.heap.IsList l2 ys)
    (h : ∀ h', IsZip h' (s.heap.objs.size + 4) (s.heap.objs.size + 2) (s.heap.objs.size + 3) .none → IsPair h' (s.heap.objs.size + 2) (.ref s.heap.objs.size) (.ref (s.heap.objs.size + 1)) →
      IsPair h' (s.heap.objs.size + 3) .none .none → h'.IsTupleIter s.heap.objs.size l1 0 → h'.IsListIter (s.heap.objs.size + 1) l2 0 →
      (∀ c o, s.heap.get? c = some o → h'.get? c = some o) → Q (.ref (s.heap.objs.size + 4)) { s with heap := h' }) :
    wpAny (model prog w) A (call (.type "zip") [.ref l1, .ref l2]) Q E s := by
  refine callType_new F.called_zip (by decide) (F.typeCall_zip_2 _ _) (F.newCall_zip_2 _ _) (fun obj => F.args_object_init_3 obj _ _) F.entry_zip_new
    (meets_zipM l1 l2 xs ys) ⟨hl1, hl2, ?_⟩
  have z1 : (zmH1 s.heap l1).objs.size = s.heap.objs.size + 1 := Heap.size_push ..
  have z2 : (zmH2 s.heap l1 l2).objs.size = s.heap.objs.size + 2 := by rw [Heap.size_push, z1]
  have z3 : (zmH3 s.heap l1 l2).objs.size = s.heap.objs.size + 3 := by rw [Heap.size_push, z2]
  have z4 : (zmH4 s.heap l1 l2).objs.size = s.heap.objs.size + 4 := by rw [Heap.size_push, z3]
  have g5 : (zmH5 s.heap l1 l2).get? (zmH4 s.heap l1 l2).objs.size = some _ := Heap.get?_push_size _ rfl
  have g4 : (zmH5 s.heap l1 l2).get? (zmH3 s.heap l1 l2).objs.size = some _ := Heap.get?_push_of_some _ (Heap.get?_push_size _ rfl)
  have g3 : (zmH5 s.heap l1 l2).get? (zmH2 s.heap l1 l2).objs.size = some _ := Heap.get?_push_of_some _ (Heap.get?_push_of_some _ (Heap.get?_push_size _ rfl))
  have g2 : (zmH5 s.heap l1 l2).get? (zmH1 s.heap l1).objs.size = some _ := Heap.get?_push_of_some _ (Heap.get?_push_of_some _ (Heap.get?_push_of_some _ (Heap.get?_push_size _ rfl)))
  have g1 : (zmH5 s.heap l1 l2).get? s.heap.objs.size = some _ := Heap.get?_push_of_some _ (Heap.get?_push_of_some _ (Heap.get?_push_of_some _ (Heap.get?_push_of_some _ (Heap.get?_push_size _ rfl))))
  show _ ∧ _
  rw [z2, z3, z4] at g5
  rw [z1, z2] at g3
  rw [z3] at g4
  rw [z1] at g2
  rw [z4]
  exact ⟨⟨_, g5, rfl⟩, h _ g5 g3 g4 ⟨_, g1, rfl, rfl⟩ ⟨_, g2, rfl, rfl⟩ fun c o x =>
    Heap.get?_push_of_some _ (Heap.get?_push_of_some _ (Heap.get?_push_of_some _ (Heap.get?_push_of_some _ (Heap.get?_push_of_some _ x))))⟩
end
theorem draws_endL {prog : Program} {w : World} {A : Around} (it l : Addr) (i : Nat) (items : Array Value) (hh : A.handled = none) (hi : items[i]? = none) :
    Draws prog w A it [it, l] i (fun _ _ => True) (fun j h => j = i ∧ h.IsListIter it l i ∧ h.IsList l items) where
  live := fun _ _ st => let ⟨o, ho, _⟩ := st.2.1; ⟨o, ho⟩
  frame := fun _ _ _ st hk => ⟨st.1, st.2.1.at fun o e => hk it (by simp) o e, let ⟨o, ho, r⟩ := st.2.2; ⟨o, hk l (by simp) o ho, r⟩⟩
  item := fun j s Q E hj st _ => absurd st.1 (Nat.ne_of_lt hj)
  done := fun s Q E st hE => wpAny_nextOf_list_end hh st.2.1 st.2.2 hi hE
theorem liter_ne {h : Heap} {it a : Addr} {i : Nat} {xs : Array Value} (hit : h.IsListIter it a i) (p : h.IsList a xs) : a ≠ it := fun z => by
  subst z
  obtain ⟨o, ho, hc, _⟩ := p
  obtain ⟨o2, ho2, hc2, _⟩ := hit
  rw [ho] at ho2
  cases ho2
  have hc' : o.cls = Value.type "list" := hc
  rw [hc'] at hc2
  exact absurd hc2 (by decide)
/-- where a walk stands, with as many items as it has -/
theorem stand_tup {prog : Program} {w : World} {A : Around} {h : Heap} {it l : Addr} {i : Nat} {items : Array Value} (hh : A.handled = none) (hit : h.IsTupleIter it l i) (p : IsTup h l items) :
    ∃ (n : Nat) (P : Nat → Value → Prop) (St : Nat → Heap → Prop), Draws prog w A it [it, l] n P St ∧ St i h ∧ i ≤ n ∧ (items.size ≤ i → i = n) := by
  by_cases hi : i < items.size
  · exact ⟨_, _, _, draws_tup it l (titer_ne hit p) items hh, ⟨hit, p⟩, Nat.le_of_lt hi, fun z => by omega⟩
  · exact ⟨i, _, _, draws_end it l i items hh (by simp; omega), ⟨rfl, hit, p⟩, Nat.le_refl _, fun _ => rfl⟩
theorem stand_lst {prog : Program} {w : World} {A : Around} {h : Heap} {it l : Addr} {i : Nat} {items : Array Value} (hh : A.handled = none) (hit : h.IsListIter it l i) (p : h.IsList l items) :
    ∃ (n : Nat) (P : Nat → Value → Prop) (St : Nat → Heap → Prop), Draws prog w A it [it, l] n P St ∧ St i h ∧ i ≤ n ∧ (items.size ≤ i → i = n) := by
  by_cases hi : i < items.size
  · exact ⟨_, _, _, Draws.list hh it l (liter_ne hit p) items, ⟨hit, p⟩, Nat.le_of_lt hi, fun z => by omega⟩
  · exact ⟨i, _, _, draws_endL it l i items hh (by simp; omega), ⟨rfl, hit, p⟩, Nat.le_refl _, fun _ => rfl⟩
/-- the tuple at a and the list at b as they stand at each turn, the items in new pairs -/
def ItzM (K : PySem.W.Frag) (a b : Addr) : It :=
  ⟨fun i H => ∃ (xs ys : List V) (x y : V), SqT K H a xs ∧ SqL K H b ys ∧ xs[i]? = some x ∧ ys[i]? = some y,
    fun i H v H' => ∃ T x y, v = .ref T ∧ H T = none ∧ H' = upd H T (.tup [x, y]) ∧ (∀ xs, SqT K H a xs → xs[i]? = some x) ∧ ∀ ys, SqL K H b ys → ys[i]? = some y,
    fun i H => ∃ xs ys : List V, SqT K H a xs ∧ SqL K H b ys ∧ (xs.length ≤ i ∨ ys.length ≤ i)⟩
theorem tupAt_ne {h : Heap} {c a : Addr} {xs : Array Value} {ob : Obj} (e : h.get? c = some ob) (hc : (ob.cls == Value.type "tuple") = false) (p : IsTup h a xs) : c ≠ a := fun z => by
  subst z
  obtain ⟨o, ho, hco, _⟩ := p
  rw [e] at ho
  cases ho
  rw [hco] at hc
  exact absurd hc (by decide)
theorem lstAt_ne {h : Heap} {c a : Addr} {xs : Array Value} {ob : Obj} (e : h.get? c = some ob) (hc : (ob.cls == Value.type "list") = false) (p : h.IsList a xs) : c ≠ a := fun z => by
  subst z
  obtain ⟨o, ho, hco, _⟩ := p
  rw [e] at ho
  cases ho
  have hco' : ob.cls = Value.type "list" := hco
  rw [hco'] at hc
  exact absurd hc (by decide)
theorem turn_zipM {P : Program} {w : World} {K : PySem.W.Frag} {elts : List Expr} {kk : Nat} {tpos : Pos} {a b z TI TO i1 i2 : Addr} (D : ZipApart z TI TO i1 i2 a b) :
    L2.Turn P w K (.Tuple elts kk tpos) (ItzM K a b) [z, TI, TO, i1, i2] z (fun i h => IsZip h z TI TO .none ∧ IsPair h TI (.ref i1) (.ref i2) ∧ (∃ x y, IsPair h TO x y) ∧ h.IsTupleIter i1 a i ∧ h.IsListIter i2 b i) where
  mem := by simp
  obj := fun i h st c hc => by
    obtain ⟨hz, hTI, ⟨x, y, hTO⟩, ⟨o1, e1, _, d1⟩, ⟨o2, e2, _, d2⟩⟩ := st
    have e' : c = z ∨ c = TI ∨ c = TO ∨ c = i1 ∨ c = i2 := by simpa using hc
    rcases e' with q | q | q | q | q
    · rw [q]; exact ⟨_, hz, fun v q => nomatch q⟩
    · rw [q]; exact ⟨_, hTI, fun v q => nomatch q⟩
    · rw [q]; exact ⟨_, hTO, fun v q => nomatch q⟩
    · rw [q]; exact ⟨o1, e1, fun v q => by rw [d1] at q; cases q⟩
    · rw [q]; exact ⟨o2, e2, fun v q => by rw [d2] at q; cases q⟩
  keep := fun i h h' st k => by
    obtain ⟨hz, hTI, ⟨x, y, hTO⟩, h1, h2⟩ := st
    exact ⟨k z (by simp) _ hz, k TI (by simp) _ hTI, ⟨x, y, k TO (by simp) _ hTO⟩, h1.at fun o q => k i1 (by simp) o q, h2.at fun o q => k i2 (by simp) o q⟩
  item := by
    intro X hP hw hK hc i pins s σ H E I hf st hg
    subst hP hw hK
    obtain ⟨hz, hTI, ⟨x0, y0, hTO⟩, h1, h2⟩ := st
    obtain ⟨xs, ys, x, y, hqx, hqy, hx, hy⟩ := hg
    obtain ⟨its, rv, p, _⟩ := I.tuple hqx
    obtain ⟨its2, rv2, p2, _⟩ := I.list hqy
    obtain ⟨u, hu, ru⟩ := rv.get hx
    obtain ⟨u2, hu2, ru2⟩ := rv2.get hy
    have hzl : z < s.heap.objs.size := Heap.lt_size hz
    have hu' : its.toArray[i]? = some u := by simpa using hu
    have hu2' : its2.toArray[i]? = some u2 := by simpa using hu2
    have hh : X.A.in1.handled = none := I.ok.hd hc
    have S : ZipSep2 z TI TO i1 i2 [i1, a] [i2, b] := ⟨D.TIz, D.TOz, D.TITO, D.TIi1, by simp, by simp [Ne.symm D.i1z, Ne.symm D.l1z], by simp [D.TOi1, Ne.symm D.l1TO], D.TIi2, by simp, by simp [Ne.symm D.i2z, Ne.symm D.l2z], by simp [D.TOi2, Ne.symm D.l2TO], by simp [D.i12, Ne.symm D.l2i1], by simp [Ne.symm D.i12, Ne.symm D.l1i2]⟩
    refine wpAny_pyNext_zipD2_item S (draws_tup i1 a D.l1i1 its.toArray hh) (Draws.list hh i2 b D.l2i2 its2.toArray) hz hTI hTO ⟨h1, p⟩ ⟨h2, p2.isList⟩ (Array.getElem?_eq_some_iff.mp hu').1 (Array.getElem?_eq_some_iff.mp hu2').1 fun x' y' h' tk hx' hy' z' TO' st1 st2 hT hsz hk => ?_
    rw [hu'] at hx'
    rw [hu2'] at hy'
    cases hx'
    cases hy'
    refine ⟨_, rfl, wpAny_letOwnedTupleGo_zip (s := { s with heap := h', toks := tk }) z' fun h'' z'' sb => ?_⟩
    have hT2 : h''.get? s.heap.objs.size = some { cls := .type "tuple", data := .seq #[u, u2] } := (sb.2 _ (Nat.ne_of_gt hzl)).trans hT
    have new : ObjOk X.prog X.w (upd H s.heap.objs.size (.tup [x, y])) h'' s.heap.objs.size (.tup [x, y]) :=
      ⟨by show 2 ≤ sizeLine; decide, [u, u2], .cons ru (.cons ru2 .nil), ⟨_, hT2, rfl, _, rfl⟩⟩
    have I1 : Inv X pins σ (upd H s.heap.objs.size (.tup [x, y])) { s with heap := h'', toks := tk } :=
      I.turnedNew (t' := tk) (ch := [z, TI, TO, i1, i2]) (fun c o hb q => (sb.2 c (fun q' => hb (by simp [q']))).trans (hk c o (fun q' => hb (by simp [q'])) (fun q' => hb (by simp [q'])) (fun q' => hb (by simp [q'])) (fun q' => hb (by simp [q'])) q)) hf (Nat.le_refl _) new
    refine ⟨.ref s.heap.objs.size, _, I1, rfl, ⟨_, x, y, rfl, I.hok.fresh (Nat.le_refl _), rfl, fun l hl => by rw [I.tuple_inj hl hqx]; exact hx, fun l hl => by rw [I.list_inj hl hqy]; exact hy⟩, ⟨z'', ?_, ⟨u, u2, ?_⟩, ?_, ?_⟩, fun c hcm => ?_⟩
    · exact (sb.2 _ D.TIz).trans (hk _ _ D.TIz D.TITO D.TIi1 D.TIi2 hTI)
    · exact (sb.2 _ D.TOz).trans TO'
    · exact st1.1.at fun o q => (sb.2 _ D.i1z).trans q
    · exact st2.1.at fun o q => (sb.2 _ D.i2z).trans q
    · have hlt : c < s.heap.objs.size := by
        have e' : c = z ∨ c = TI ∨ c = TO ∨ c = i1 ∨ c = i2 := by simpa using hcm
        rcases e' with q | q | q | q | q
        · rw [q]; exact hzl
        · rw [q]; exact Heap.lt_size hTI
        · rw [q]; exact Heap.lt_size hTO
        · rw [q]; obtain ⟨_, e1, _⟩ := h1; exact Heap.lt_size e1
        · rw [q]; obtain ⟨_, e2, _⟩ := h2; exact Heap.lt_size e2
      rw [upd_ne (Nat.ne_of_lt hlt)]
      exact (hf c hcm).1
  done := by
    intro X hP hw hK hc i pins s σ H E I hf st hg
    subst hP hw hK
    obtain ⟨hz, hTI, ⟨x0, y0, hTO⟩, h1, h2⟩ := st
    obtain ⟨xs, ys, hqx, hqy, hend⟩ := hg
    obtain ⟨its, rv, p, _⟩ := I.tuple hqx
    obtain ⟨its2, rv2, p2, _⟩ := I.list hqy
    have l1 := rv.length
    have l2 := rv2.length
    have hh : X.A.in1.handled = none := I.ok.hd hc
    have S : ZipSep2 z TI TO i1 i2 [i1, a] [i2, b] := ⟨D.TIz, D.TOz, D.TITO, D.TIi1, by simp, by simp [Ne.symm D.i1z, Ne.symm D.l1z], by simp [D.TOi1, Ne.symm D.l1TO], D.TIi2, by simp, by simp [Ne.symm D.i2z, Ne.symm D.l2z], by simp [D.TOi2, Ne.symm D.l2TO], by simp [D.i12, Ne.symm D.l2i1], by simp [Ne.symm D.i12, Ne.symm D.l1i2]⟩
    obtain ⟨n1, P1, St1, D1, st1, le1, e1⟩ := stand_tup (prog := X.prog) (w := X.w) hh h1 p
    obtain ⟨n2, P2, St2, D2, st2, le2, e2⟩ := stand_lst (prog := X.prog) (w := X.w) hh h2 p2.isList
    have he : i = n1 ∨ i = n2 := by
      rcases hend with q | q
      · exact .inl (e1 (by simp; omega))
      · exact .inr (e2 (by simp; omega))
    exact wpAny_pyNext_zipD2_end S D1 D2 hz hTI hTO st1 st2 le1 le2 he fun h' tk hk => ⟨rfl, I.turnedL (t' := tk) (ch := [z, TI, TO, i1, i2]) (fun c o hb q =>
      hk c o (fun q' => hb (by simp [q'])) (fun q' => hb (by simp [q'])) (fun q' => hb (by simp [q'])) (fun q' => hb (by simp [q'])) q) hf⟩
  self := fun A i s Q E st h => wpAny_pyIter_zip st.1 h
def iZipM (K : PySem.W.Frag) (ta : TA) : TI := fun σ H R => ta σ H fun vs H1 => ∃ a b xs ys, vs = [.ref a, .ref b] ∧ SqT K H1 a xs ∧ SqL K H1 b ys ∧ R (ItzM K a b) H1
theorem pi_zipM {X : Cx} {e e2 : Expr} {ta : TA} {p pos tpos : Pos} {elts : List Expr} {kk : Nat} (hg : Gl X "zip") (hm : X.mg "zip" = none) (ha : PA X [e, e2] ta)
    (hs : starEach [e, e2] X.env = (false, eval e X.env) :: starEach [e2] X.env := by rfl) (hpl : (backTo pos (starEach [e2] X.env)).any (·.1) = false := by rfl) :
    PI X (.Tuple elts kk tpos) (.Call (.Name "zip" p) [e, e2] [] pos) (iZipM X.K ta) := by
  refine ⟨fun pins s σ H R I h => ?_⟩
  refine Call_ (ld_blt I hg hm PyProof.Rows.boot_zip (PyProof.Rows.callWith_type1 (thn (ha.run pos pins s σ H _ I h) fun us s1 ⟨vs, H1, I1, r1, q1⟩ => ?_) hs hpl))
  obtain ⟨a, b, xs, ys, ex, hqx, hqy, q⟩ := q1
  subst ex
  cases r1 with
  | cons r rr =>
    cases rr with
    | cons r' rr =>
      cases rr
      cases r
      cases r'
      have fresh5 : ∀ c, c ∈ [s1.heap.objs.size + 4, s1.heap.objs.size + 2, s1.heap.objs.size + 3, s1.heap.objs.size, s1.heap.objs.size + 1] → FpOk X pins H1 c := fun c hcm => by
        have e' : c = s1.heap.objs.size + 4 ∨ c = s1.heap.objs.size + 2 ∨ c = s1.heap.objs.size + 3 ∨ c = s1.heap.objs.size ∨ c = s1.heap.objs.size + 1 := by simpa using hcm
        have hle : s1.heap.objs.size ≤ c := by
          rcases e' with z | z | z | z | z
          · rw [z]; exact Nat.le_add_right _ _
          · rw [z]; exact Nat.le_add_right _ _
          · rw [z]; exact Nat.le_add_right _ _
          · rw [z]; exact Nat.le_refl _
          · rw [z]; exact Nat.le_add_right _ _
        exact I1.fpOk hle (I1.hok.fresh hle)
      obtain ⟨its, rv, p1, _⟩ := I1.tuple hqx
      obtain ⟨its2, rv2, p2, _⟩ := I1.list hqy
      obtain ⟨o1, ho1, _⟩ := id p1
      refine call_zipM (show s1.heap.IsTuple a its.toArray from p1) p2.isList fun h' hz hTI hTO h1 h2 hk => wpAny_pyIter_zip hz ?_
      have I2 : Inv X pins σ H1 { s1 with heap := h' } := I1.kept (t' := s1.toks) hk
      exact ⟨s1.heap.objs.size + 4, [s1.heap.objs.size + 4, s1.heap.objs.size + 2, s1.heap.objs.size + 3, s1.heap.objs.size, s1.heap.objs.size + 1], _, _, H1, rfl, I2, turn_zipM (PySem.W.ktu_apart s1.heap.objs.size a b (Heap.lt_size ho1) p2.lt), ⟨hz, hTI, ⟨_, _, hTO⟩, h1, h2⟩, fresh5, q⟩
theorem walk_zipM {K : PySem.W.Frag} {a b : Addr} {xs ys : List V} {n : Nat} (hn : n = min xs.length ys.length) : Walk (ItzM K a b) n (fun H => SqT K H a xs ∧ SqL K H b ys) (YPair (fun i => xs[i]?) (fun i => ys[i]?)) := by
  subst hn
  refine ⟨fun i _ hi q => ?_, fun _ q => ⟨xs, ys, q.1, q.2, by omega⟩, fun i H v H' _ q y => ?_⟩
  · have h1 : i < xs.length := by omega
    have h2 : i < ys.length := by omega
    exact ⟨xs, ys, xs[i], ys[i], q.1, q.2, by simp [h1], by simp [h2]⟩
  · obtain ⟨T, x, z, h1, h2, h3, h4, h5⟩ := y
    exact ⟨T, x, z, h1, h2, h3, h4 xs q.1, h5 ys q.2⟩
end Bs
namespace Bs
open PySem L2 TL
/-! ### len, in and == of an own class -/
/-- what the written part says of the class C, whose method m is the function at f -/
structure DunC (K : PySem.W.Frag) (C : Addr) (m : Str) (f : Addr) : Prop where
  at_ : PySem.W.findIn K (.ref C) m = some (some (.ref f))
  fn : PySem.W.isFn K (.ref f) = true
def rLenO (C : Addr) (sp : Sp) : List V → Hp → VK → Prop := fun xs H Q => ∃ a dx fs, xs = [.ref a] ∧ H a = some (.ins C dx fs) ∧ sp [.ref a] H (fun v H' => ∃ n : Int, v = .int n ∧ 0 ≤ n ∧ n < 2 ^ 63 ∧ Q (.int n) H') (fun _ _ _ => False)
def rInO (C : Addr) (sp : Sp) : R2 := fun x y H Q => ∃ a dx fs, y = .ref a ∧ H a = some (.ins C dx fs) ∧ sp [.ref a, x] H (fun v H' => ∃ b, v = .bl b ∧ Q (.bl b) H') (fun _ _ _ => False)
def rEqO (C : Addr) (sp : Sp) : R2 := fun x y H Q => ∃ a dx fs b dy gs, x = .ref a ∧ y = .ref b ∧ H a = some (.ins C dx fs) ∧ H b = some (.ins C dy gs) ∧ sp [.ref a, .ref b] H (fun v H' => ∃ c, v = .bl c ∧ Q (.bl c) H') (fun _ _ _ => False)
section
variable {X : Cx} {CX : CXT} {k : Nat} {f C : Addr} {fd : FuncData} {ps : List Str} {sp : Sp}
theorem cr_lenO (S : DunC X.K C "__len__" f) (F : FnOk X.prog X.w X.K X.mg X.base CX k f fd ps sp) (hr : Room (k + 1) X.A) (hb : Binds X.K fd ps []) (hx : Passes CX X (fun _ _ _ => False)) : CallR X (.builtin "len") (rLenO C sp) := by
  intro pins s σ H xs us Q I r h
  obtain ⟨a, dx, fs, rfl, ha, q⟩ := h
  cases r with
  | cons rx rr =>
    cases rr
    cases rx
    obtain ⟨mA, J, _⟩ := ins_get I.hok ha
    obtain ⟨od, J, _⟩ := J.look
    obtain ⟨m, hF⟩ := I.fr
    refine PySem.W.len_K hF I.ok.mod.kin J S.at_ S.fn ?_
    have hl : [Value.ref a].length = ps.length := F.len _ _ _ _ q
    have b := hb s [.ref a] I.kIn (by rw [List.append_nil]; exact hl)
    rw [List.append_nil] at b
    refine wpAny_call (codeAny_mono (F.run X.A.in1 X.stack s H ⟨[.ref a], []⟩ [.ref a] [.ref a] _ (fun _ _ _ => False) hr.in1 I.env0.in1 b (.cons rfl .nil) q) fun r s' hq => ?_)
    cases r with
    | error e => exact hx pins σ H s e s' I hq
    | ok fl =>
      cases fl with
      | ret w =>
        obtain ⟨z, H', I', rz, n, rfl, h0, h1, q⟩ := I.after hq
        obtain ⟨t, rfl⟩ := rz
        exact ⟨⟨h0, h1⟩, .int n, H', I'.tok _, ⟨_, rfl⟩, q⟩
      | next => exact False.elim hq
      | brk => exact False.elim hq
      | cont => exact False.elim hq
theorem op_inO (S : DunC X.K C "__contains__" f) (F : FnOk X.prog X.w X.K X.mg X.base CX k f fd ps sp) (hr : Room k X.A) (hb : Binds X.K fd ps []) (hx : Passes CX X (fun _ _ _ => False)) : OpR X (compareOp .In) (rInO C sp) := by
  intro pins s σ H x y v u Q I rx ry h
  obtain ⟨a, dx, fs, rfl, ha, q⟩ := h
  cases ry
  obtain ⟨mA, J, _⟩ := ins_get I.hok ha
  obtain ⟨od, J, _⟩ := J.look
  obtain ⟨m, hF⟩ := I.fr
  refine PySem.W.in_K hF I.ok.mod.kin J S.at_ S.fn ?_
  refine wpAny_mono (run_fn (us := [.ref a, v]) (vs := [.ref a, x]) F hr hb .nil hx I (.cons rfl (.cons rx .nil)) q) (fun r s' hv => ?_) fun _ _ e => e
  obtain ⟨z, H', I', rz, b, rfl, q⟩ := hv
  cases rz
  exact PySem.wpAny_truthy_bool ⟨.bl b, H', I', rfl, q⟩
theorem op_eqO (S : DunC X.K C "__eq__" f) (F : FnOk X.prog X.w X.K X.mg X.base CX k f fd ps sp) (hr : Room k X.A) (hb : Binds X.K fd ps []) (hx : Passes CX X (fun _ _ _ => False)) : OpR X (compareOp .Eq) (rEqO C sp) := by
  intro pins s σ H x y v u Q I rx ry h
  obtain ⟨a, dx, fs, b, dy, gs, rfl, rfl, ha, hb', q⟩ := h
  cases rx
  cases ry
  obtain ⟨mA, J, _⟩ := ins_get I.hok ha
  obtain ⟨mB, J', _⟩ := ins_get I.hok hb'
  obtain ⟨od, J, _⟩ := J.look
  obtain ⟨od', J', _⟩ := J'.look
  obtain ⟨m, hF⟩ := I.fr
  show wpAny (model X.prog X.w) X.A (richCompare .Eq (.ref a) (.ref b)) (EP X pins σ Q) X.xe s
  refine PySem.W.cmp_K (op := .Eq) (tb := .ref C) hr.units0 hF I.ok.mod.kin J J'.type (by simp [PySem.W.notFirst]) S.at_ S.fn ?_
  refine wpAny_mono (run_fn (us := [.ref a, .ref b]) (vs := [.ref a, .ref b]) F hr hb .nil hx I (.cons rfl (.cons rfl .nil)) q) (fun r s' hv => ?_) fun _ _ e => e
  obtain ⟨z, H', I', rz, c, rfl, q⟩ := hv
  cases rz
  exact ⟨.bl c, H', I', rfl, q⟩
end
/-! ### a class made, and own +, where an error may come out -/
section
variable {X : Cx} {CX : CXT} {k : Nat} {f C : Addr} {fd : FuncData} {ps : List Str} {sp : Sp} {E : L2.St → XK} {x : Str} {p pos : Pos} {e : Expr} {es : List Expr} {t : TA}
theorem run_makeS {pins : List (Addr × Obj)} {σ : L2.St} {H : Hp} {s : Shared} {Q : VK} {us : List Value} {vs : List V} (M : Mk X.K C f) (F : FnOk X.prog X.w X.K X.mg X.base CX k f fd ps sp) (hr : Room (k + 1) X.A) (hb : Binds X.K fd ps [])
    (hx : PassesAt CX X σ (E σ)) (I : Inv X pins σ H s) (r : Vals vs us)
    (h : ∀ x dx, H x = none → H dx = none → dx ≠ x → sp (.ref x :: vs) (upd (upd H dx (.own x)) x (.ins C dx [])) (fun v H2 => v = .non ∧ Q (.ref x) H2) (E σ)) :
    wpAny (model X.prog X.w) X.A (call (.ref C) us) (EP X pins σ Q) X.xe s := by
  have hq := h (s.heap.objs.size + 1) s.heap.objs.size (I.hok.fresh (Nat.le_succ _)) (I.hok.fresh (Nat.le_refl _)) (Nat.ne_of_lt (Nat.lt_succ_self _))
  have I2 := Inv.made (C := C) I
  have r2 : Vals (V.ref (s.heap.objs.size + 1) :: vs) (Value.ref (s.heap.objs.size + 1) :: us) := .cons rfl r
  have hl : (Value.ref (s.heap.objs.size + 1) :: us).length = ps.length := by
    have e := r2.length
    rw [F.len _ _ _ _ hq] at e
    exact e.symm
  have hB := hb _ (Value.ref (s.heap.objs.size + 1) :: us) I2.kIn (by rw [List.append_nil]; exact hl)
  rw [List.append_nil] at hB
  refine wpAny_call (make_map (f := f) I.kIn M.makes M.init (beq_iff_eq.mp M.fn) (codeAny_mono (F.run _ X.stack _ _ ⟨Value.ref (s.heap.objs.size + 1) :: us, []⟩ (Value.ref (s.heap.objs.size + 1) :: us) _ _ (E σ) (hr.make C us [])
    (I2.env0.make C us []) hB r2 hq) fun r s' hq' => ?_))
  cases r with
  | error e => exact hx pins _ _ e s' I2 hq'
  | ok fl =>
    cases fl with
    | ret u =>
      obtain ⟨v, H', I3, rv, ev, q3⟩ := I2.after hq'
      subst ev
      exact ⟨rv, ⟨V.ref (s.heap.objs.size + 1), H', I3, rfl, q3⟩⟩
    | next => exact False.elim hq'
    | brk => exact False.elim hq'
    | cont => exact False.elim hq'
def tMakeS (C : Addr) (sp : Sp) (E : L2.St → XK) (t : TA) : TE := fun σ H Q => t σ H fun vs H1 => ∀ x dx, H1 x = none → H1 dx = none → dx ≠ x → sp (.ref x :: vs) (upd (upd H1 dx (.own x)) x (.ins C dx [])) (fun v H2 => v = .non ∧ Q (.ref x) H2) (E σ)
theorem pe_makeS (M : Mk X.K C f) (F : FnOk X.prog X.w X.K X.mg X.base CX k f fd ps sp) (hr : Room (k + 1) X.A) (hg : Gl X x) (hm : X.mg x = some (.ref C)) (hb : Binds X.K fd ps []) (hx : ∀ σ, PassesAt CX X σ (E σ))
    (ha : PA X (e :: es) t) (hdb : (x == ("__debug__" : Str)) = false := by decide) (he : starEach (e :: es) X.env = (false, eval e X.env) :: starEach es X.env := by rfl) (hpl : (backTo pos (starEach es X.env)).any (·.1) = false := by rfl) :
    PE X (.Call (.Name x p) (e :: es) [] pos) (tMakeS C sp E t) := by
  refine ⟨fun pins s σ H Q I h => ?_⟩
  refine wpAny_Call_Name_kw (ld_glob I hg hm ?_ hdb)
  refine PySem.W.callWith_K (h₀ := X.base) I.ok.mod.kin M.kp (thn (ha.run pos pins s σ H _ I h) fun us s1 ⟨vs, H1, I1, r, q⟩ => ⟨I1.kIn, ?_⟩) he hpl
  exact run_makeS M F hr hb (hx σ) I1 r q
end
end Bs
namespace Bs
open PySem L2 TL
/-! ### own + that may let an error out; a def that may let errors out, called where it does not; isinstance of a caught error without fields -/
theorem passN0 {X : Cx} : Passes (L2N.CX X.prog X.w) X (fun _ _ _ => False) := fun pins σ H s e s' I c => L2N.passAt takesN0 σ pins H s e s' I c
def tAddS (K : PySem.W.Frag) (C : Addr) (sp : Sp) (E : L2.St → XK) (ta tb : TE) : TE := fun σ H Q => ta σ H fun x H1 => tb σ H1 fun y H2 => ∃ a dx fs t xs, x = .ref a ∧ H2 a = some (.ins C dx fs) ∧ y = .ref t ∧ SqT K H2 t xs ∧ sp [.ref a, .ref t] H2 (fun v H' => ∃ b, v = .ref b ∧ Q (.ref b) H') (E σ)
section
variable {X : Cx} {CX : CXT} {k : Nat} {f C : Addr} {fd : FuncData} {ps : List Str} {sp : Sp}
open PySem.W in
theorem pe_addS {E : L2.St → XK} {e1 e2 : Expr} {pos : Pos} {ta tb : TE} (S : AddC X.K C f) (F : FnOk X.prog X.w X.K X.mg X.base CX k f fd ps sp) (hr : Room k X.A) (hb : Binds X.K fd ps []) (hx : ∀ σ, PassesAt CX X σ (E σ)) (ha : PE X e1 ta) (hb' : PE X e2 tb) :
    PE X (.BinOp e1 .Add e2 pos) (tAddS X.K C sp E ta tb) := by
  refine ⟨fun pins s σ H Q I h => ?_⟩
  refine wpAny_BinOp (binT ha hb' I h fun v u s x y H I rx ry h => ?_)
  obtain ⟨a, dx, fs, t, xs, rfl, ha, rfl, hT, q⟩ := h
  cases rx
  cases ry
  obtain ⟨mA, J, _⟩ := ins_get I.hok ha
  obtain ⟨od, J, _⟩ := J.look
  obtain ⟨its, rt, ⟨ot, ho, hc, _⟩, hs⟩ := I.tuple hT
  have hcall := run_fnS (us := [.ref a, .ref t]) (vs := [.ref a, .ref t]) F hr hb (hx σ) I (.cons rfl (.cons rfl .nil)) q
  have one := ksp_try (name := "__add__") (Q := EP X pins σ Q) I.kIn J S.at_ S.fn (wpAny_mono hcall (fun v s' hv => by
    obtain ⟨z, H', I', rz, b, rfl, q⟩ := hv
    cases rz
    exact ⟨.ref b, H', I', rfl, q⟩) fun _ _ e => e)
  obtain ⟨cd, rest, hcd, hm⟩ := ksp_first S.first
  have KX := I.kIn
  obtain ⟨hh, g, d, tt, os⟩ := s
  have L1 : Looks (model X.prog X.w) hh (typeOf (.ref a)) (.ref C) := J.type
  have L2 : Looks (model X.prog X.w) hh (typeOf (.ref t)) (.type "tuple") := fun A Q E s k q => wpAny_typeOf_ref (k _ _ ho) (by rw [hc]; exact q)
  have e1 : PySem.dunder "add" = "__add__" := by decide +kernel
  have e2 : dunderR "add" = "__radd__" := by decide +kernel
  have L3 : Looks (model X.prog X.w) hh (fillsNumberSlot (.ref C) "add") true := fills_K KX hcd hm (by rw [e1]; exact S.at_)
  have eq : (((some (Value.builtin "tuple.__add__")).isSome && !isSeqSlot (some (Value.builtin "tuple.__add__"))) || ((none : Option Value).isSome && !isSeqSlot none)) = false := by decide +kernel
  have L4 : Looks (model X.prog X.w) hh (fillsNumberSlot (.type "tuple") "add") false := by
    have h4 := ksp_fillsT (M := model X.prog X.w) (T := "tuple") (nm := "add") (h := hh) (fo := some (.builtin "tuple.__add__")) (ro := none) KX (by rw [e1]; exact S.tadd) (by rw [e2]; exact S.trad)
    rw [eq] at h4
    exact h4
  have hne : (Value.ref C == Value.type "tuple") = false := rfl
  have L8 : Looks (model X.prog X.w) hh (typeLookup (.type "tuple") (dunderR "add")) none := looks_findIn KX (by rw [e2]; exact S.trad)
  show wpAny _ _ (binaryOp .Add (.ref a) (.ref t)) _ _ _
  simp only [binaryOp, Operator.info]
  refine wpAny_holding (wpAny_bind ?_)
  unfold binaryOp1
  simp only [e1] at *
  refine wpAny_bind (L1.at (wpAny_bind (L2.at (wpAny_bind (L3.at ?_)))))
  simp only [hne, Bool.false_eq_true, if_false]
  ksp_lk
  refine wpAny_mono one (fun r s' hr' => ?_) fun _ _ e => e
  obtain ⟨v, rfl, hq⟩ := hr'
  ksp_lk
  exact hq
theorem pe_addSK {E : L2.St → XK} {K : PySem.W.Frag} {e1 e2 : Expr} {pos : Pos} {ta tb : TE} (hk : X.K = K) (S : AddC X.K C f) (F : FnOk X.prog X.w X.K X.mg X.base CX k f fd ps sp) (hr : Room k X.A) (hb : Binds X.K fd ps []) (hx : ∀ σ, PassesAt CX X σ (E σ)) (ha : PE X e1 ta) (hb' : PE X e2 tb) :
    PE X (.BinOp e1 .Add e2 pos) (tAddS K C sp E ta tb) := hk ▸ pe_addS S F hr hb hx ha hb'
end
def rIsN (K : PySem.W.Frag) (D a : Addr) (cls : Value) (d : Option Addr) : List V → Hp → VK → Prop := fun xs H Q => cls = .ref D ∧ d = none ∧ ∃ (c : V) (cv : Value) (b : Bool), xs = [.ref a, c] ∧ (∀ u, RelV c u → u = cv) ∧ PySem.W.kitOne K (.ref D) cv = some b ∧ Q (.bl b) H
theorem call_isN {X : Cx} {a D : Addr} {oe : Obj} {cls : Value} {d : Option Addr} {pn : List (Addr × Obj)} (C : ExcC X.K D) (hz : Zc cls d oe) (hf : ∃ vs, oe.data = .fields vs) : CallR (X.suite a ((a, oe) :: pn)) (.builtin "isinstance") (rIsN X.K D a cls d) := by
  intro pins s σ H xs us Q I r h
  obtain ⟨rfl, rfl, c, cv, b, rfl, h1, h2, q⟩ := h
  exact call_isE C hz hf pins s σ H _ us Q I r ⟨c, cv, b, rfl, h1, h2, q⟩
end Bs
namespace Bs
open PySem L2 TL PySem.Spec PyProof.Rows
def forBody : Stmt → List Stmt
  | .For _ _ b _ _ => b
  | .While _ b _ _ => b
  | _ => []
/-! ### comprehensions whose elements are new objects -/
/-- what is said of an object stands when others are made, and when a list is changed -/
structure Stay {α : Type} (P : Hp → Addr → α → Prop) : Prop where
  same : ∀ {H H' : Hp} {a : Addr} {y : α}, P H a y → Same H H' → P H' a y
  lst : ∀ {H : Hp} {D a : Addr} {l l' : List V} {y : α}, H D = some (.lst l) → P H a y → P (upd H D (.lst l')) a y
def rsv {α : Type} (rs : List (Addr × α)) : List V := rs.map fun r => V.ref r.1
def RsAll {α : Type} (P : Hp → Addr → α → Prop) (H : Hp) (rs : List (Addr × α)) : Prop := ∀ r ∈ rs, P H r.1 r.2
theorem RsAll.same {α : Type} {P : Hp → Addr → α → Prop} (st : Stay P) {H H' : Hp} {rs : List (Addr × α)} (h : RsAll P H rs) (s : Same H H') : RsAll P H' rs := fun r hr => st.same (h r hr) s
theorem lc_rsF {α : Type} {P : Hp → Addr → α → Prop} (st : Stay P) {J : It} {n : Nat} {G : Hp → Prop} {Y : Nat → Hp → V → Hp → Prop} (w : Walk J n G Y) {g : TG} {tt : TT} {te : TE} {vs : List Nat} {σ : L2.St} {H1 : Hp} {D : Addr} {Qd : Hp → Prop} (ys : Nat → List α) (hy0 : ys 0 = []) (hD : H1 D = none) (hn : n ≤ 1000000)
    (hl : ∀ i, i ≤ n → (ys i).length ≤ i) (hG : ∀ H', Same H1 H' → G H') (hY : ∀ i H x H', Y i H x H' → Same H H')
    (hs : ∀ i x H H' (N : Hp → Prop) (R : VK), i < n → Same H1 H' → Y i H x H' → (ys (i + 1) = ys i → ∀ H4, Same H' H4 → N H4) → (∀ y, ys (i + 1) = ys i ++ [y] → ∀ H4 a, Same H' H4 → P H4 a y → R (.ref a) H4) → g x (wipe σ vs) H' fun σ2 H2 => wipe σ2 vs = wipe σ vs ∧ tt σ2 H2 fun b H3 => if b = true then te σ2 H3 R else N H3)
    (hd : ∀ H' rs, Same H1 H' → H' D = some (.lst (rsv rs)) → RsAll P H' rs → rs.map (·.2) = ys n → Qd H') : LoopC J g tt te vs σ H1 D Qd := by
  refine loopc_it w (fun i H => Same H1 H ∧ ∃ rs, H D = some (.lst (rsv rs)) ∧ RsAll P H rs ∧ rs.map (·.2) = ys i) ⟨same_upd hD, [], upd_same, fun _ h => (by cases h), hy0.symm⟩ (fun i H _ p => hG H p.1) (fun i x H H' hi p y => ?_) (fun H p => ?_)
  · obtain ⟨s1, rs, e1, ha, hr⟩ := p
    have hYs := hY _ _ _ _ y
    refine hs i x H H' _ _ hi (s1.trans hYs) y (fun e H4 s4 => ?_) (fun z e H4 a s4 pz => ?_)
    · exact ⟨(s1.trans hYs).trans s4, rs, s4 _ _ (hYs _ _ e1), ha.same st (hYs.trans s4), by rw [e]; exact hr⟩
    · have e4 := s4 _ _ (hYs _ _ e1)
      have hl' := hl i (by omega)
      have hlen : rs.length = (ys i).length := by rw [← hr, List.length_map]
      refine ⟨_, e4, ?_, same_upd2 (s1.trans (hYs.trans s4)) hD, rs ++ [(a, z)], ?_, fun r h => ?_, ?_⟩
      · rw [rsv, List.length_map]
        exact smallM (by omega)
      · rw [upd_same, rsv, rsv, List.map_append]
        rfl
      · rcases List.mem_append.mp h with h | h
        · exact st.lst e4 (ha.same st (hYs.trans s4) r h)
        · rw [List.mem_singleton.mp h]
          exact st.lst e4 pz
      · rw [e, List.map_append, hr]
        rfl
  · obtain ⟨s1, rs, e1, ha, hr⟩ := p
    exact hd H rs s1 e1 ha hr
theorem lc_rs {α : Type} {P : Hp → Addr → α → Prop} (st : Stay P) {J : It} {n : Nat} {G : Hp → Prop} {Y : Nat → Hp → V → Hp → Prop} (w : Walk J n G Y) {g : TG} {te : TE} {vs : List Nat} {σ : L2.St} {H1 : Hp} {D : Addr} {Qd : Hp → Prop} (ys : List α) (hD : H1 D = none) (hn : n ≤ 1000000) (hl : ys.length = n)
    (hG : ∀ H', Same H1 H' → G H') (hY : ∀ i H x H', Y i H x H' → Same H H')
    (hs : ∀ i x y H H' (R : VK), i < n → ys[i]? = some y → Same H1 H' → Y i H x H' → (∀ H4 a, Same H' H4 → P H4 a y → R (.ref a) H4) → g x (wipe σ vs) H' fun σ2 H2 => wipe σ2 vs = wipe σ vs ∧ te σ2 H2 R)
    (hd : ∀ H' rs, Same H1 H' → H' D = some (.lst (rsv rs)) → RsAll P H' rs → rs.map (·.2) = ys → Qd H') : LoopC J g tYes te vs σ H1 D Qd := by
  refine lc_rsF st w (fun i => ys.take i) List.take_zero hD hn (fun i hi => by rw [List.length_take]; omega) hG hY (fun i x H H' N R hi s1 y kN kR => ?_) (fun H' rs s e a hr => hd H' rs s e a (by rw [hr, ← hl, List.take_length]))
  have hi' : i < ys.length := by omega
  have e : ys[i]? = some ys[i] := List.getElem?_eq_getElem hi'
  have q := hs i x ys[i] H H' R hi e s1 y (fun H4 a s4 p => kR _ (by rw [List.take_succ_eq_append_getElem hi']) H4 a s4 p)
  exact q
/-- [1 for x in xs if t(x)]: how many there are -/
theorem lc_count {J : It} {n : Nat} {G : Hp → Prop} {Y : Nat → Hp → V → Hp → Prop} (w : Walk J n G Y) {g : TG} {tt : TT} {te : TE} {vs : List Nat} {σ : L2.St} {H1 : Hp} {D : Addr} {Qd : Hp → Prop} (b : Nat → Bool) (f : Nat → V) (hD : H1 D = none) (hn : n ≤ 1000000)
    (hG : ∀ H', Same H1 H' → G H') (hY : ∀ i H x H', Y i H x H' → Same H H')
    (hs : ∀ i x H H' (N : Hp → Prop) (R : VK), i < n → Same H1 H' → Y i H x H' → (b i = false → ∀ H4, Same H' H4 → N H4) → (b i = true → ∀ H4, Same H' H4 → R (f i) H4) → g x (wipe σ vs) H' fun σ2 H2 => wipe σ2 vs = wipe σ vs ∧ tt σ2 H2 fun b H3 => if b = true then te σ2 H3 R else N H3)
    (hd : ∀ H', Same H1 H' → H' D = some (.lst (((List.range n).filter b).map f)) → Qd H') : LoopC J g tt te vs σ H1 D Qd := by
  refine loopc_it w (fun i H => Same H1 H ∧ H D = some (.lst (((List.range i).filter b).map f))) ⟨same_upd hD, upd_same⟩ (fun i H _ p => hG H p.1) (fun i x H H' hi p y => ?_) (fun H p => hd H p.1 p.2)
  have hYs := hY _ _ _ _ y
  refine hs i x H H' _ _ hi (p.1.trans hYs) y (fun hb H4 s4 => ⟨p.1.trans (hYs.trans s4), ?_⟩) (fun hb H4 s4 => ⟨_, s4 _ _ (hYs _ _ p.2), ?_, same_upd2 (p.1.trans (hYs.trans s4)) hD, ?_⟩)
  · rw [List.range_succ, List.filter_append, List.filter_cons, hb, if_neg (by decide), List.filter_nil, List.append_nil]
    exact s4 _ _ (hYs _ _ p.2)
  · rw [List.length_map]
    exact smallM (Nat.le_trans (List.length_filter_le _ _) (by rw [List.length_range]; omega))
  · rw [upd_same, List.range_succ, List.filter_append, List.filter_cons, hb, if_pos rfl, List.filter_nil, List.map_append]
    rfl
theorem range_filter_any {α : Type} (d : α) (b : α → Bool) : ∀ ys : List α, (List.range ys.length).any (fun i => b (ys[i]?.getD d)) = ys.any b := fun ys => by
  conv => rhs; rw [← range_getD d ys, List.any_map]
  rfl
theorem filter_len_pos {α : Type} (l : List α) (b : α → Bool) : decide (0 < ((l.filter b).length : Int)) = l.any b := by
  induction l with
  | nil => rfl
  | cons x r ih =>
    rw [List.filter_cons, List.any_cons]
    cases hb : b x with
    | true =>
      rw [if_pos rfl, List.length_cons]
      exact decide_eq_true (by omega)
    | false =>
      rw [if_neg (by decide), ih]
      rfl
end Bs
namespace Bs
open PySem L2 TL PySem.Spec PyProof.Rows PySem.SeqAt
/-- min of two tuples of ints -/
def rMinI (K : PySem.W.Frag) : List V → Hp → VK → Prop := fun xs H Q => ∃ (a b : Addr) (e1 e2 : List Int), xs = [.ref a, .ref b] ∧ SqT K H a (e1.map V.int) ∧ SqT K H b (e2.map V.int) ∧ Q (if HT.lexLt e2 e1 then .ref b else .ref a) H
theorem call_minI {X : Cx} (hc : X.calm = true) (hu : X.A.units + 64 < cLine) : CallR X (.builtin "min") (rMinI X.K) := by
  intro pins s σ H xs us Q I r h
  obtain ⟨a, b, e1, e2, rfl, ha, hb, g⟩ := h
  obtain ⟨u1, u2, rfl, r1, r2⟩ := vals2 r
  obtain rfl : u1 = Value.ref a := r1
  obtain rfl : u2 = Value.ref b := r2
  obtain ⟨i1, v1, pa, _⟩ := I.tuple ha
  obtain ⟨i2, v2, pb, _⟩ := I.tuple hb
  have cmp : ∀ (s' : Shared), (∀ c o, s.heap.get? c = some o → s'.heap.get? c = some o) → ∀ (c d : Addr) (j1 j2 : List Value) (f1 f2 : List Int), IsTup s.heap c j1.toArray → IsTup s.heap d j2.toArray →
      Vals (f1.map V.int) j1 → Vals (f2.map V.int) j2 → LtAt X.A.in1 s' (.ref c) (.ref d) (HT.lexLt f1 f2) := fun s' k c d j1 j2 f1 f2 hc' hd' w1 w2 =>
    ltAt_ints (tup_kept k hc') (tup_kept k hd') (intsAre_of w1) (intsAre_of w2) (by show X.A.units + 1 < cLine; omega)
  refine min_pair (I.ok.hd hc) (fun i => if i = 0 then e1 else e2) (fun s' k i j x y hx hy => ?_) fun h' tk k => ⟨_, H, I.kept k, ?_, g⟩
  · have sp : ∀ (i : Nat) (x : Value), (#[Value.ref a, Value.ref b] : Array Value)[i]? = some x → (i = 0 ∧ x = .ref a) ∨ (i = 1 ∧ x = .ref b) := fun i x hx => by
      match i with
      | 0 => exact .inl ⟨rfl, (Option.some.inj hx).symm⟩
      | 1 => exact .inr ⟨rfl, (Option.some.inj hx).symm⟩
      | n + 2 => simp at hx
    rcases sp i x hx with ⟨rfl, rfl⟩ | ⟨rfl, rfl⟩ <;> rcases sp j y hy with ⟨rfl, rfl⟩ | ⟨rfl, rfl⟩
    · exact cmp s' k _ _ _ _ _ _ pa pa v1 v1
    · exact cmp s' k _ _ _ _ _ _ pa pb v1 v2
    · exact cmp s' k _ _ _ _ _ _ pb pa v2 v1
    · exact cmp s' k _ _ _ _ _ _ pb pb v2 v2
  · show RelV (if HT.lexLt e2 e1 = true then V.ref b else V.ref a) (if HT.lexLt e2 e1 = true then Value.ref b else Value.ref a)
    split <;> rfl
/-- [f(x) for x in a tuple, a list of ints] -/
theorem lc_tupV {K : PySem.W.Frag} {a : Addr} {xs : List Int} {g : TG} {te : TE} {vs : List Nat} {σ : L2.St} {H1 : Hp} {D : Addr} {Qd : Hp → Prop} (f : Int → V) (hX : SqT K H1 a (xs.map V.int)) (hD : H1 D = none) (hn : xs.length ≤ 1000000)
    (hs : ∀ x H' (R : VK), x ∈ xs → Same H1 H' → (∀ H4, Same H' H4 → R (f x) H4) → g (.int x) (wipe σ vs) H' fun σ2 H2 => wipe σ2 vs = wipe σ vs ∧ te σ2 H2 R)
    (hd : ∀ H', Same H1 H' → H' D = some (.lst (xs.map f)) → Qd H') : LoopC (Itt K a) g tYes te vs σ H1 D Qd := by
  refine lc_yat (walk_tup (xs := xs.map V.int)) rfl (fun v => match v with | .int x => f x | v => v) hD (by rw [List.length_map]; exact hn) (fun H' s => sameT s hX) (fun x H' R hx s1 k => ?_) (fun H' s' e => hd H' s' ?_)
  · obtain ⟨z, hz, rfl⟩ := List.mem_map.mp hx
    exact hs z H' R hz s1 k
  · rw [e, List.map_map]
    rfl
theorem lc_lstV {K : PySem.W.Frag} {a : Addr} {xs : List Int} {g : TG} {te : TE} {vs : List Nat} {σ : L2.St} {H1 : Hp} {D : Addr} {Qd : Hp → Prop} (f : Int → V) (hX : SqL K H1 a (xs.map V.int)) (hD : H1 D = none) (hn : xs.length ≤ 1000000)
    (hs : ∀ x H' (R : VK), x ∈ xs → Same H1 H' → (∀ H4, Same H' H4 → R (f x) H4) → g (.int x) (wipe σ vs) H' fun σ2 H2 => wipe σ2 vs = wipe σ vs ∧ te σ2 H2 R)
    (hd : ∀ H', Same H1 H' → H' D = some (.lst (xs.map f)) → Qd H') : LoopC (Itl K a) g tYes te vs σ H1 D Qd := by
  refine lc_yat (walk_list (xs := xs.map V.int)) rfl (fun v => match v with | .int x => f x | v => v) hD (by rw [List.length_map]; exact hn) (fun H' s => s.seq hX) (fun x H' R hx s1 k => ?_) (fun H' s' e => hd H' s' ?_)
  · obtain ⟨z, hz, rfl⟩ := List.mem_map.mp hx
    exact hs z H' R hz s1 k
  · rw [e, List.map_map]
    rfl
/-- within a comprehension: the fragment is told -/
theorem pi_tupK {X : Cx} {K : PySem.W.Frag} {tg l : Expr} {tl : TE} (hK : X.K = K) (hl : PE X l tl) : PI X tg l (iTup K tl) := by
  subst hK
  exact pi_tup hl
theorem pi_listK {X : Cx} {K : PySem.W.Frag} {tg l : Expr} {tl : TE} (hK : X.K = K) (hl : PE X l tl) : PI X tg l (iList K tl) := by
  subst hK
  exact pi_list hl
theorem op_eqDK {X : Cx} {K : PySem.W.Frag} (hK : X.K = K) (hu : X.A.units + 64 < cLine) : OpR X (compareOp .Eq) (rEqD K) := by
  subst hK
  exact op_eqD hu
theorem op_neDK {X : Cx} {K : PySem.W.Frag} (hK : X.K = K) (hu : X.A.units + 64 < cLine) : OpR X (compareOp .NotEq) (rNeD K) := by
  subst hK
  exact op_neD hu
/-! ### slices of tuples -/
theorem sl_gen {K : PySem.W.Frag} {H : Hp} {a : Addr} {xs : List V} {lo hi : Option Int} {Q : VK} (h : SqT K H a xs) (q : ∀ H' p, Same H H' → SqT K H' p (cutV xs lo hi) → Q (.ref p) H') : rSlA K (.ref a) lo hi H Q := by
  refine ⟨a, xs, rfl, h, fun z => q H a (Same.refl _) ?_, fun _ p np => q _ p (same_upd np) (SqT.of upd_same)⟩
  have e : cutV xs lo hi = xs := by
    unfold cutV
    rw [z.1, z.2, List.drop_zero, Nat.sub_zero, List.take_length]
  rw [e]
  exact h
theorem cut_last (xs : List V) (x : V) : cutV (xs ++ [x]) (some (-1)) none = [x] := by
  unfold cutV
  rw [HT.sIx_none, List.length_append, List.length_singleton]
  have e : HT.sIx (xs.length + 1) 0 (some (-1)) = xs.length := by
    show (if (-1 : Int) < 0 then ((-1 : Int) + ((xs.length + 1 : Nat) : Int)).toNat else min (-1 : Int).toNat (xs.length + 1)) = xs.length
    rw [if_pos (by decide)]
    omega
  rw [e, List.drop_left, show xs.length + 1 - xs.length = 1 by omega]
  rfl
theorem sl_last {K : PySem.W.Frag} {H : Hp} {a : Addr} {xs : List V} {x : V} {Q : VK} (h : SqT K H a (xs ++ [x])) (q : ∀ H' p, Same H H' → SqT K H' p [x] → Q (.ref p) H') : rSlA K (.ref a) (some (-1)) none H Q :=
  sl_gen h (by rw [cut_last]; exact q)
theorem Stm.put {H : Hp} {st d p la : Addr} {o : HO} (x : Stm H st d p) (n1 : st ≠ la) (n2 : d ≠ la) (n3 : p ≠ la) : Stm (upd H la o) st d p :=
  ⟨by rw [upd_ne n1]; exact x.at_, let ⟨ds, h, n⟩ := x.dg; ⟨ds, by rw [upd_ne n2]; exact h, n⟩, let ⟨i, h⟩ := x.pl; ⟨i, by rw [upd_ne n3]; exact h⟩, x.n1, x.n2⟩
/-! ### a comprehension with two loops -/
def LoopI (J1 : It) (g1 : TG) (tt1 : TT) (te : TE) (vs1 : List Nat) (σ2 : L2.St) (H4 : Hp) (D : Addr) (N : Hp → Prop) : Prop := ∃ W1 : Nat → Nat → Hp → Prop, (∃ m, W1 0 m H4) ∧ ∀ j k H, W1 j k H →
  (J1.stop j H ∧ N H) ∨ (J1.go j H ∧ ∃ Nx1 : Hp → Prop, (∀ H', Nx1 H' → ∃ k', k' < k ∧ W1 (j + 1) k' H') ∧ ∀ x H', J1.yld j H x H' → g1 x (wipe σ2 vs1) H' fun σ3 H5 => wipe σ3 vs1 = wipe σ2 vs1 ∧ tt1 σ3 H5 fun b H6 =>
    if b = true then te σ3 H6 fun y H7 => ∃ acc, H7 D = some (.lst acc) ∧ acc.length < sizeLine ∧ Nx1 (upd H7 D (.lst (acc ++ [y]))) else Nx1 H6)
def LoopC2 (J : It) (g : TG) (tt : TT) (wi1 : TI) (g1 : TG) (tt1 : TT) (te : TE) (vs vs1 : List Nat) (σ : L2.St) (H1 : Hp) (D : Addr) (Qd : Hp → Prop) : Prop := ∃ W : Nat → Nat → Hp → Prop, (∃ m, W 0 m (upd H1 D (.lst []))) ∧ ∀ i m H, W i m H →
  (J.stop i H ∧ Qd H) ∨ (J.go i H ∧ ∃ Nx : Hp → Prop, (∀ H', Nx H' → ∃ m', m' < m ∧ W (i + 1) m' H') ∧ ∀ x H', J.yld i H x H' → g x (wipe σ vs) H' fun σ2 H2 => wipe σ2 vs = wipe σ vs ∧ tt σ2 H2 fun b H3 =>
    if b = true then wi1 σ2 H3 fun J1 H4 => LoopI J1 g1 tt1 te vs1 σ2 H4 D Nx else Nx H3)
theorem lc2_eq (wi : TI) (g : TG) (tt : TT) (wi1 : TI) (g1 : TG) (tt1 : TT) (te : TE) (vs vs1 : List Nat) (σ : L2.St) (H : Hp) (Q : VK) : tLc2 wi g tt wi1 g1 tt1 te vs vs1 σ H Q = wi σ H fun J H1 => ∀ D, H1 D = none → LoopC2 J g tt wi1 g1 tt1 te vs vs1 σ H1 D (fun H => Q (.ref D) H) := rfl
theorem loopc2_it {J : It} {n : Nat} {G : Hp → Prop} {Y : Nat → Hp → V → Hp → Prop} (w : Walk J n G Y) {g : TG} {tt : TT} {wi1 : TI} {g1 : TG} {tt1 : TT} {te : TE} {vs vs1 : List Nat} {σ : L2.St} {H1 : Hp} {D : Addr} {Qd : Hp → Prop} (Pv : Nat → Hp → Prop) (h0 : Pv 0 (upd H1 D (.lst []))) (hG : ∀ i H, i ≤ n → Pv i H → G H)
    (hs : ∀ i x H H', i < n → Pv i H → Y i H x H' → g x (wipe σ vs) H' fun σ2 H2 => wipe σ2 vs = wipe σ vs ∧ tt σ2 H2 fun b H3 =>
      if b = true then wi1 σ2 H3 fun J1 H4 => LoopI J1 g1 tt1 te vs1 σ2 H4 D (Pv (i + 1)) else Pv (i + 1) H3) (hd : ∀ H, Pv n H → Qd H) : LoopC2 J g tt wi1 g1 tt1 te vs vs1 σ H1 D Qd := by
  refine ⟨fun i m H => m = n - i ∧ i ≤ n ∧ Pv i H, ⟨n, by simp, Nat.zero_le _, h0⟩, ?_⟩
  rintro i m H ⟨rfl, hi, p⟩
  have q := hG i H hi p
  by_cases hlt : i < n
  · refine .inr ⟨w.goes i H hlt q, Pv (i + 1), fun H' p' => ⟨n - (i + 1), by omega, rfl, hlt, p'⟩, fun x H' y => hs i x H H' hlt p (w.yields i H x H' hlt q y)⟩
  · have e : i = n := by omega
    subst e
    exact .inl ⟨w.stops H q, hd H p⟩
theorem loopi_it {J : It} {n : Nat} {G : Hp → Prop} {Y : Nat → Hp → V → Hp → Prop} (w : Walk J n G Y) {g : TG} {tt : TT} {te : TE} {vs : List Nat} {σ : L2.St} {H1 : Hp} {D : Addr} {Qd : Hp → Prop} (Pv : Nat → Hp → Prop) (h0 : Pv 0 H1) (hG : ∀ i H, i ≤ n → Pv i H → G H)
    (hs : ∀ i x H H', i < n → Pv i H → Y i H x H' → g x (wipe σ vs) H' fun σ2 H2 => wipe σ2 vs = wipe σ vs ∧ tt σ2 H2 fun b H3 =>
      if b = true then te σ2 H3 fun y H4 => ∃ acc, H4 D = some (.lst acc) ∧ acc.length < sizeLine ∧ Pv (i + 1) (upd H4 D (.lst (acc ++ [y]))) else Pv (i + 1) H3) (hd : ∀ H, Pv n H → Qd H) : LoopI J g tt te vs σ H1 D Qd := by
  refine ⟨fun i m H => m = n - i ∧ i ≤ n ∧ Pv i H, ⟨n, by simp, Nat.zero_le _, h0⟩, ?_⟩
  rintro i m H ⟨rfl, hi, p⟩
  have q := hG i H hi p
  by_cases hlt : i < n
  · refine .inr ⟨w.goes i H hlt q, Pv (i + 1), fun H' p' => ⟨n - (i + 1), by omega, rfl, hlt, p'⟩, fun x H' y => hs i x H H' hlt p (w.yields i H x H' hlt q y)⟩
  · have e : i = n := by omega
    subst e
    exact .inl ⟨w.stops H q, hd H p⟩
/-- [x for x in xs if b(x)], of a list of objects -/
theorem lc_filt {α : Type} {K : PySem.W.Frag} {a : Addr} {rs : List (Addr × α)} {g : TG} {tt : TT} {te : TE} {vs : List Nat} {σ : L2.St} {H1 : Hp} {D : Addr} {Qd : Hp → Prop} (b : α → Bool) (hX : SqL K H1 a (rsv rs)) (hD : H1 D = none) (hn : rs.length ≤ 1000000)
    (hs : ∀ r H' (N : Hp → Prop) (R : VK), r ∈ rs → Same H1 H' → (b r.2 = false → ∀ H4, Same H' H4 → N H4) → (b r.2 = true → ∀ H4, Same H' H4 → R (.ref r.1) H4) → g (.ref r.1) (wipe σ vs) H' fun σ2 H2 => wipe σ2 vs = wipe σ vs ∧ tt σ2 H2 fun b H3 => if b = true then te σ2 H3 R else N H3)
    (hd : ∀ H', Same H1 H' → H' D = some (.lst (rsv (rs.filter fun r => b r.2))) → Qd H') : LoopC (Itl K a) g tt te vs σ H1 D Qd := by
  refine loopc_it (walk_list (xs := rsv rs)) (fun i H => Same H1 H ∧ H D = some (.lst (rsv ((rs.take i).filter fun r => b r.2)))) ⟨same_upd hD, upd_same⟩ (fun i H _ p => p.1.seq hX) (fun i x H H' hi p y => ?_) (fun H p => hd H p.1 ?_)
  · obtain ⟨rfl, e⟩ := yat_at y
    rw [rsv, List.length_map] at hi
    rw [rsv, List.getElem?_map, List.getElem?_eq_getElem hi] at e
    cases e
    have hm := List.getElem_mem hi
    have et : rs.take (i + 1) = rs.take i ++ [rs[i]] := List.take_succ_eq_append_getElem hi
    generalize rs[i] = r at *
    refine hs r _ _ _ hm p.1 (fun hb H4 s4 => ⟨p.1.trans s4, ?_⟩) (fun hb H4 s4 => ⟨_, s4 _ _ p.2, ?_, same_upd2 (p.1.trans s4) hD, ?_⟩)
    · rw [et, List.filter_append, List.filter_cons, hb, if_neg (by decide), List.filter_nil, List.append_nil]
      exact s4 _ _ p.2
    · rw [rsv, List.length_map]
      exact smallM (Nat.le_trans (List.length_filter_le _ _) (by rw [List.length_take]; omega))
    · rw [upd_same, et, List.filter_append, List.filter_cons, hb, if_pos rfl, List.filter_nil, rsv, rsv, List.map_append]
      rfl
  · rw [p.2, show (rsv rs).length = rs.length from List.length_map .., List.take_length]
/-- [f(x) for x in xs], a list of objects, values that are no objects -/
theorem lc_objV {α : Type} {K : PySem.W.Frag} {a : Addr} {rs : List (Addr × α)} {g : TG} {te : TE} {vs : List Nat} {σ : L2.St} {H1 : Hp} {D : Addr} {Qd : Hp → Prop} (f : Addr × α → V) (hX : SqL K H1 a (rsv rs)) (hD : H1 D = none) (hn : rs.length ≤ 1000000)
    (hs : ∀ r H' (R : VK), r ∈ rs → Same H1 H' → (∀ H4, Same H' H4 → R (f r) H4) → g (.ref r.1) (wipe σ vs) H' fun σ2 H2 => wipe σ2 vs = wipe σ vs ∧ te σ2 H2 R)
    (hd : ∀ H', Same H1 H' → H' D = some (.lst (rs.map f)) → Qd H') : LoopC (Itl K a) g tYes te vs σ H1 D Qd := by
  refine lc_ys (walk_list (xs := rsv rs)) (rs.map f) hD (by rw [rsv, List.length_map]; exact hn) (by rw [rsv, List.length_map, List.length_map]) (fun H' s => s.seq hX) yat_same (fun i x y H1 H2 R hi hy s1 yy k => ?_) hd
  obtain ⟨rfl, e⟩ := yat_at yy
  rw [rsv, List.length_map] at hi
  rw [rsv, List.getElem?_map, List.getElem?_eq_getElem hi] at e
  rw [List.getElem?_map, List.getElem?_eq_getElem hi] at hy
  cases e
  cases hy
  exact hs _ _ R (List.getElem_mem hi) s1 k
end Bs
namespace Bs
open PySem L2 TL PySem.Spec PyProof.Rows PySem.SeqAt
/-! ### math.lcm -/
def rLcm : List V → Hp → VK → Prop := fun vs H Q => ∃ a b : Int, vs = [.int a, .int b] ∧ a.natAbs < 2 ^ 60 ∧ b.natAbs < 2 ^ 60 ∧ Q (.int ((Nat.lcm a.natAbs b.natAbs : Nat) : Int)) H
theorem cr_lcm {X : Cx} : CallR X (.builtin "math.lcm") rLcm := by
  intro pins s σ H vs us Q I r h
  obtain ⟨a, b, rfl, ha, hb, q⟩ := h
  obtain ⟨t, u, rfl⟩ := Vals.int2 r
  have e1 : Nat.lcm 1 a.natAbs = a.natAbs := by simp [Nat.lcm]
  refine PySem.W.mg_lcm (Nat.lt_trans ha (by decide)) (Nat.lt_trans hb (by decide)) ?_ ⟨.int _, H, I.tok _, ⟨_, rfl⟩, by rw [e1]; exact q⟩
  rw [e1, Int.natAbs_natCast]
  have h1 : a.natAbs.lcm b.natAbs ≤ a.natAbs * b.natAbs := by
    unfold Nat.lcm
    exact Nat.div_le_self _ _
  have h2 : a.natAbs * b.natAbs < 2 ^ 120 := by
    rcases Nat.eq_zero_or_pos b.natAbs with h0 | h0
    · rw [h0, Nat.mul_zero]
      exact Nat.pow_pos (by decide)
    · calc a.natAbs * b.natAbs < 2 ^ 60 * b.natAbs := Nat.mul_lt_mul_of_pos_right ha h0
        _ ≤ 2 ^ 60 * 2 ^ 60 := Nat.mul_le_mul_left _ (Nat.le_of_lt hb)
        _ = 2 ^ 120 := by decide
  have h3 := log2_le_of (Nat.lt_of_le_of_lt h1 h2)
  have : (120 : Nat) < bitsLine := by decide
  omega
/-! ### max(xs, default=d) -/
def rMaxD (K : PySem.W.Frag) : List V → List V → Hp → VK → Prop := fun vs zs H Q => ∃ (a : Addr) (ns : List Int) (d : Int), vs = [.ref a] ∧ zs = [.int d] ∧ SqL K H a (ns.map V.int) ∧ (ns = [] → Q (.int d) H) ∧ (ns ≠ [] → ∀ m, m ∈ ns → (∀ y, y ∈ ns → y ≤ m) → Q (.int m) H)
theorem cr_maxD {X : Cx} (hc : X.calm = true) : CallRK X (.builtin "max") ["default"] (rMaxD X.K) := by
  intro pins s σ H vs zs us ws Q I r rz h
  obtain ⟨a, ns, d, rfl, rfl, hs, q0, q1⟩ := h
  obtain ⟨its, rv, hl, _⟩ := I.list hs
  rw [Vals.ref1 r]
  have hw : ∃ t, ws = [.int d t] := by
    cases rz with
    | cons r1 r2 =>
      obtain ⟨t, rfl⟩ := r1
      cases r2
      exact ⟨t, rfl⟩
  obtain ⟨t, rfl⟩ := hw
  show wpAny _ _ (call (.builtin "max") [.ref a] [(Str.ofString "default", .int d t)]) _ _ _
  have hi := rv.ints
  have hlen : its.length = ns.length := by
    have := rv.length
    rw [List.length_map] at this
    exact this.symm
  obtain ⟨xs, e⟩ := hi.allInts.items
  have hn : numsOf (intItems xs).toList = ns := by rw [← e]; exact hi.numsOf
  rw [nums_intItems] at hn
  have hl' := hl.isList
  rw [e] at hl'
  have hsz : (intItems xs).size = xs.size := by simp [intItems]
  refine call_max_walkD (PySem.W.iter_listW (A := X.A.in1) (I.ok.hd hc) hl' fun s₂ e2 W st hfp hw hk => ?_)
  refine ⟨_, _, _, _, _, _, _, s.heap, (fun i j => decide (numAt xs i > numAt xs j)), rfl, W, st, hfp, hw, hk, fun hz s' m => ?_, fun hp => ⟨fun i j vi vj s' Q' E' _ h1 h2 h3 => CmpOf.ints_gt (numAt xs) (fun _ _ => intItems_at) i j vi vj s' Q' E' h1 h2 h3, fun v s' hP m => ?_⟩⟩
  · obtain ⟨h', tk, rfl, hk'⟩ := PySem.W.moved_old e2 rfl m
    have hnil : ns = [] := by
      rw [← hn]
      have : xs.toList.length = 0 := by rw [Array.length_toList]; omega
      rw [List.eq_nil_of_length_eq_zero this]
      rfl
    exact ⟨.int d, H, I.kept hk', ⟨_, rfl⟩, q0 hnil⟩
  · obtain ⟨h', tk, rfl, hk'⟩ := PySem.W.moved_old e2 rfl m
    obtain ⟨t', rfl⟩ := intItems_at hP
    obtain ⟨h1, h2⟩ := argBest_gt (numAt xs) (xs.size - 1)
    rw [hsz] at hp
    subst hn
    have hne : xs.toList.map (·.1) ≠ [] := fun z => by
      have := congrArg List.length z
      rw [List.length_map, Array.length_toList, List.length_nil] at this
      omega
    rw [hsz]
    refine ⟨.int _, H, I.kept hk', ⟨_, rfl⟩, q1 hne _ ?_ fun y hy => ?_⟩
    · rw [numAt_eq]
      exact PySem.getD_mem (by rw [List.length_map, Array.length_toList]; omega)
    · obtain ⟨j, hj, rfl⟩ := PySem.mem_getD hy
      rw [List.length_map, Array.length_toList] at hj
      rw [← numAt_eq]
      exact h2 j (by omega)
end Bs
namespace Bs
open PySem L2 TL PySem.Spec PyProof.Rows PySem.SeqAt
/-! ### x not in an own object -/
section
variable {X : Cx} {CX : CXT} {k : Nat} {f C : Addr} {fd : FuncData} {ps : List Str} {sp : Sp}
def rNotInO (C : Addr) (sp : Sp) : R2 := rInO C (fun vs H Q E => sp vs H (fun v H' => ∃ b, v = .bl b ∧ Q (.bl (!b)) H') E)
theorem op_notInO (S : DunC X.K C "__contains__" f) (F : FnOk X.prog X.w X.K X.mg X.base CX k f fd ps sp) (hr : Room k X.A) (hb : Binds X.K fd ps []) (hx : Passes CX X (fun _ _ _ => False)) : OpR X (compareOp .NotIn) (rNotInO C sp) := by
  intro pins s σ H x y v u Q I rx ry h
  obtain ⟨a, dx, fs, rfl, ha, q⟩ := h
  cases ry
  obtain ⟨mA, J, _⟩ := ins_get I.hok ha
  obtain ⟨od, J, _⟩ := J.look
  obtain ⟨m, hF⟩ := I.fr
  refine PySem.W.notIn_K hF I.ok.mod.kin J S.at_ S.fn ?_
  refine wpAny_mono (run_fn (us := [.ref a, v]) (vs := [.ref a, x]) F hr hb .nil hx I (.cons rfl (.cons rx .nil)) q) (fun r s' hv => ?_) fun _ _ e => e
  obtain ⟨z, H', I', rz, b, rfl, b', e', q⟩ := hv
  cases rz
  cases e'
  exact PySem.wpAny_truthy_bool ⟨.bl _, H', I', rfl, q⟩
end
/-! ### min(xs, default=d) -/
def rMinD (K : PySem.W.Frag) : List V → List V → Hp → VK → Prop := fun vs zs H Q => ∃ (a : Addr) (ns : List Int) (d : Int), vs = [.ref a] ∧ zs = [.int d] ∧ SqL K H a (ns.map V.int) ∧ (ns = [] → Q (.int d) H) ∧ (ns ≠ [] → ∀ m, m ∈ ns → (∀ y, y ∈ ns → m ≤ y) → Q (.int m) H)
theorem cr_minD {X : Cx} (hc : X.calm = true) : CallRK X (.builtin "min") ["default"] (rMinD X.K) := by
  intro pins s σ H vs zs us ws Q I r rz h
  obtain ⟨a, ns, d, rfl, rfl, hs, q0, q1⟩ := h
  obtain ⟨its, rv, hl, _⟩ := I.list hs
  rw [Vals.ref1 r]
  have hw : ∃ t, ws = [.int d t] := by
    cases rz with
    | cons r1 r2 =>
      obtain ⟨t, rfl⟩ := r1
      cases r2
      exact ⟨t, rfl⟩
  obtain ⟨t, rfl⟩ := hw
  show wpAny _ _ (call (.builtin "min") [.ref a] [(Str.ofString "default", .int d t)]) _ _ _
  have hi := rv.ints
  have hlen : its.length = ns.length := by
    have := rv.length
    rw [List.length_map] at this
    exact this.symm
  obtain ⟨xs, e⟩ := hi.allInts.items
  have hn : numsOf (intItems xs).toList = ns := by rw [← e]; exact hi.numsOf
  rw [nums_intItems] at hn
  have hl' := hl.isList
  rw [e] at hl'
  have hsz : (intItems xs).size = xs.size := by simp [intItems]
  refine call_min_walkD (PySem.W.iter_listW (A := X.A.in1) (I.ok.hd hc) hl' fun s₂ e2 W st hfp hw hk => ?_)
  refine ⟨_, _, _, _, _, _, _, s.heap, (fun i j => decide (numAt xs i < numAt xs j)), rfl, W, st, hfp, hw, hk, fun hz s' m => ?_, fun hp => ⟨fun i j vi vj s' Q' E' _ h1 h2 h3 => CmpOf.ints_lt (numAt xs) (fun _ _ => intItems_at) i j vi vj s' Q' E' h1 h2 h3, fun v s' hP m => ?_⟩⟩
  · obtain ⟨h', tk, rfl, hk'⟩ := PySem.W.moved_old e2 rfl m
    have hnil : ns = [] := by
      rw [← hn]
      have : xs.toList.length = 0 := by rw [Array.length_toList]; omega
      rw [List.eq_nil_of_length_eq_zero this]
      rfl
    exact ⟨.int d, H, I.kept hk', ⟨_, rfl⟩, q0 hnil⟩
  · obtain ⟨h', tk, rfl, hk'⟩ := PySem.W.moved_old e2 rfl m
    obtain ⟨t', rfl⟩ := intItems_at hP
    obtain ⟨h1, h2⟩ := argBest_lt (numAt xs) (xs.size - 1)
    rw [hsz] at hp
    subst hn
    have hne : xs.toList.map (·.1) ≠ [] := fun z => by
      have := congrArg List.length z
      rw [List.length_map, Array.length_toList, List.length_nil] at this
      omega
    rw [hsz]
    refine ⟨.int _, H, I.kept hk', ⟨_, rfl⟩, q1 hne _ ?_ fun y hy => ?_⟩
    · rw [numAt_eq]
      exact PySem.getD_mem (by rw [List.length_map, Array.length_toList]; omega)
    · obtain ⟨j, hj, rfl⟩ := PySem.mem_getD hy
      rw [List.length_map, Array.length_toList] at hj
      rw [← numAt_eq]
      exact h2 j (by omega)
end Bs
namespace Bs
open PySem L2 TL PySem.Spec PyProof.Rows PySem.SeqAt
/-- int(True), int(False) -/
theorem call_intBl {X : Cx} : CallR X (.type "int") (fun xs H Q => ∃ k : Bool, xs = [.bl k] ∧ Q (.int (if k = true then 1 else 0)) H) := by
  intro pins s σ H xs us Q I r h
  exact call_int1 pins s σ H xs us Q I r (.inr h)
/-! ### math.lcm, wide -/
def rLcmW : List V → Hp → VK → Prop := fun vs H Q => ∃ a b : Int, vs = [.int a, .int b] ∧ Sz 13000 a ∧ Sz 13000 b ∧ Q (.int ((Nat.lcm a.natAbs b.natAbs : Nat) : Int)) H
theorem cr_lcmW {X : Cx} : CallR X (.builtin "math.lcm") rLcmW := by
  intro pins s σ H vs us Q I r h
  obtain ⟨a, b, rfl, ha, hb, q⟩ := h
  obtain ⟨t, u, rfl⟩ := Vals.int2 r
  have e1 : Nat.lcm 1 a.natAbs = a.natAbs := by simp [Nat.lcm]
  have ha' : a.natAbs < 2 ^ 13000 := ha
  have hb' : b.natAbs < 2 ^ 13000 := hb
  have g0 : ∀ n : Nat, n < 2 ^ 13000 → ¬ (n.log2 / 30 + 1 > 450) := fun n h => by
    have := log2_le_of h
    omega
  have one : (1 : Nat) < 2 ^ 13000 := Nat.one_lt_two_pow (by omega)
  have h1 : ¬ (max 1 a.natAbs).log2 / 30 + 1 > 450 := g0 _ (Nat.max_lt.mpr ⟨one, ha'⟩)
  have h2 : ¬ (max a.natAbs b.natAbs).log2 / 30 + 1 > 450 := g0 _ (Nat.max_lt.mpr ⟨ha', hb'⟩)
  have h3 : a.natAbs.lcm b.natAbs ≤ a.natAbs * b.natAbs := by
    unfold Nat.lcm
    exact Nat.div_le_self _ _
  have h4 : a.natAbs.lcm b.natAbs < 2 ^ 26000 := by
    refine Nat.lt_of_le_of_lt h3 ?_
    have : a.natAbs * b.natAbs < 2 ^ 13000 * 2 ^ 13000 := Nat.mul_lt_mul'' ha' hb'
    rwa [← Nat.pow_add] at this
  have hsz : ((((Nat.lcm 1 a.natAbs).lcm b.natAbs : Nat) : Int)).natAbs.log2 < PySem.bitsLine := by
    rw [e1, Int.natAbs_natCast]
    exact Nat.lt_of_le_of_lt (log2_le_of h4) (by decide)
  refine call_function_meets PySem.W.MGF.kind_lcm PySem.W.MGF.plain_lcm PySem.W.MGF.entry_lcm (PySem.W.MGF.args_lcm _ _) (PySem.W.mg_run_lcm a t b u h1 h2 hsz).meets ?_
  exact ⟨.int _, H, I.tok _, ⟨_, rfl⟩, by rw [e1]; exact q⟩
/-! ### a call of a parameter that holds a def, where an error may come out -/
section
variable {X : Cx} {CX : CXT} {k i : Nat} {f : Addr} {fd : FuncData} {ps : List Str} {sp : Sp} {E : L2.St → XK} {x : Str} {p pos : Pos} {e : Expr} {es : List Expr} {t : TA}
def tCallLS (i : Nat) (f : Addr) (sp : Sp) (E : L2.St → XK) (t : TA) : TE := fun σ H Q => σ[i]? = some (some (.ref f)) ∧ t σ H fun vs H1 => sp vs H1 Q (E σ)
theorem pe_callLS (F : FnOk X.prog X.w X.K X.mg X.base CX k f fd ps sp) (hr : Room k X.A) (hN : X.N[i]? = some x) (hv : Vis X.env.scope x) (hk : PySem.W.keepIn X.K (.ref f) = true) (hb : Binds X.K fd ps []) (hx : ∀ σ, PassesAt CX X σ (E σ)) (ha : PA X (e :: es) t)
    (hdb : (x == ("__debug__" : Str)) = false := by decide) (hcd : (x == ("__classdict__" : Str)) = false := by decide)
    (he : starEach (e :: es) X.env = (false, eval e X.env) :: starEach es X.env := by rfl) (hpl : (backTo pos (starEach es X.env)).any (·.1) = false := by rfl) : PE X (.Call (.Name x p) (e :: es) [] pos) (tCallLS i f sp E t) := by
  refine ⟨fun pins s σ H Q I h => ?_⟩
  obtain ⟨hs, ht⟩ := h
  refine wpAny_Call_Name_kw (thn ((pe_var (pos := p) hN hv hdb hcd).run pins s σ H (fun v H1 => v = .ref f ∧ H1 = H) I ⟨.ref f, hs, rfl, rfl⟩) fun u s1 ⟨v, H1, I1, r1, q1⟩ => ?_)
  obtain ⟨rfl, rfl⟩ := q1
  cases r1
  refine PySem.W.callWith_K (h₀ := X.base) I.ok.mod.kin hk (thn (ha.run pos pins s1 σ _ _ I1 ht) fun us s2 ⟨vs, H2, I2, r, q⟩ => ⟨I2.kIn, ?_⟩) he hpl
  exact run_fnS F hr hb (hx σ) I2 r q
end
/-! ### try .. except (X, Y): one clause, two classes, no name -/
theorem flying_push {B : Heap} {l : List Env} {a : Addr} {Z : Obj → Prop} {h h' : Heap} (k : ∀ b o, h.get? b = some o → h'.get? b = some o) (x : HandSPX.FlyingZ B l a Z h) : HandSPX.FlyingZ B l a Z h' := by
  obtain ⟨k1, k2, k3, oe, vs, T, oT, ts, he, hz, hd, h1, hnT, hTe, hT, hdT, h3⟩ := x
  exact ⟨fun b o e => k b o (k1 b o e), k2, k3.of_keeps fun b o e _ => ⟨o, k b o e, rfl⟩, oe, vs, T, oT, ts, k _ _ he, hz, hd, h1, hnT, hTe, k _ _ hT, hdT, h3⟩
/-- what the clause wishes of an error of the body -/
def wTwo (K : PySem.W.Frag) (c1 c2 : Value) (ts : Addr → Value → Option Addr → TS) (Wout : WX) (D : Ends) : WX := fun cls d σ H =>
  ∃ b, PySem.W.exmAny K cls [c1, c2] = some b ∧ (b = true → ∀ a, H a = none → ts a cls d D σ H) ∧ (b = false → Wout cls d σ H)
section
variable {X : Cx} {x1 x2 : Str} {c1 c2 : Value} {body suite : List Stmt} {b₀ : Stmt} {np1 np2 tpos pos pos' : Pos} {kk : Nat} {tb : WX → TS} {ts : Addr → Value → Option Addr → TS} {Wout : WX}
theorem ps_try_two (hs : X.stack = X.env :: X.outer) (hf : X.env.frame = some X.env.locals) (hc1 : Names X x1 c1) (hc2 : Names X x2 c2) (tk : L2N.Takes X Wout)
    (hb : ∀ (W : WX) (pn : List (Addr × Obj)) (xe : Value → Shared → Prop), L2N.Takes (X.tr pn xe) W → PassesOwn (model X.prog X.w) X.A X.env xe → PSs (X.tr pn xe) body (tb W))
    (hsu : ∀ (a : Addr) (oe : Obj) (cls : Value) (d : Option Addr) (pn : List (Addr × Obj)), L2N.Zn cls d oe → (∃ vs, oe.data = .fields vs) → PSs (X.suite a ((a, oe) :: pn)) (b₀ :: suite) (ts a cls d)) :
    PS X (.Try body [.ExceptHandler (some (.Tuple [.Name x1 np1, .Name x2 np2] kk tpos)) none (b₀ :: suite) pos'] [] [] pos) (fun D σ H => tb (wTwo X.K c1 c2 ts Wout D) D σ H) := by
  refine ⟨fun pins s σ H D I h => ?_⟩
  have ok := I.ok
  have hfr : X.A.frames = some (X.env :: X.outer) := by rw [ok.frames, hs]
  refine wpAny_Try_except ?_
  refine wpAny_mono ((hb (wTwo X.K c1 c2 ts Wout D) (X.pn ++ pins) (fun e s₁ => wpAny (model X.prog X.w) X.A (noteFrame e X.env) (fun _ s₂ => wpAny (model X.prog X.w) X.A (setFlight e none) (fun _ s₃ =>
    wpAny (model X.prog X.w) X.A (handleBy e X.env [.ExceptHandler (some (.Tuple [.Name x1 np1, .Name x2 np2] kk tpos)) none (b₀ :: suite) pos']) (SP X pins D) X.xe s₃) X.xe s₂) X.xe s₁) (fun u s' xx => ?_) PassesOwn.looking).run [] s σ H D (I.toTry _) h) (fun f s1 hsp => ?_) (fun e s1 he => he)
  · -- the catch
    obtain ⟨a, B, sI, pins', σ', H', cls, d, rfl, J', nb, up, sky, na, os, ag, b, hb1, hyes, hno⟩ := xx
    have J : Inv X pins σ' H' sI := J'.ofTry ok
    have sky' : L2.Sky B (X.env :: X.outer) a (L2N.Zn cls d) X.env.locals s'.heap := by rw [← hs]; exact sky
    show wpAny (model X.prog X.w) X.A (noteFrame (.ref a) X.env) _ _ _
    refine L2N.Sky.land L2N.Zn.steady hfr hf sky' fun h3 fl3 up3 => ?_
    have J3 : Inv X pins σ' H' { s' with heap := h3 } := J.landed nb fl3.1 (up.trans up3) os ag
    obtain ⟨oe3, vs3, he3, hz3, hd3⟩ := fl3.there
    have notFr : ∀ {h : Heap} {o : Obj} {vs : Array Value}, h.FunFrames B (X.env :: X.outer) → h.get? a = some o → o.data = .fields vs → a ∉ frs (X.env :: X.outer) := fun {h o vs} ff e dd hm => by
      obtain ⟨_, o', e', hnf⟩ := ff.mem hm
      rw [e] at e'; cases e'
      exact hnf _ dd
    have nfr := notFr fl3.2.2.1 he3 hd3
    have nL : a ≠ X.env.locals := fun z => nfr (List.mem_filterMap.mpr ⟨X.env, List.mem_cons_self, by rw [hf, z]⟩)
    have nF : a ∉ X.fs := fun hm => by
      obtain ⟨e, he, q⟩ := List.mem_filterMap.mp hm
      exact nfr (List.mem_filterMap.mpr ⟨e, List.mem_cons_of_mem _ he, q⟩)
    have S3 := J3.suite he3 hd3 na nL nF
    refine wpAny_handleBy_cons (codeAny_handlers_test ?_) (by intro q; cases q)
    have test : ∀ {x : Str} {c : Value} {np : Pos} (hc : Names X x c) {Q : Value → Shared → Prop} {E : Value → Shared → Prop}, Q c { s' with heap := h3 } → wpAny (model X.prog X.w) (X.A.mark (some (.ref a))) (eval (.Name x np) X.env) Q E { s' with heap := h3 } := fun {x c np} hc {Q E} q => by
      obtain ⟨hg, hdbg, hm | ⟨hm, hv, hnn⟩⟩ := hc
      · exact ld_glob (X := X.suite a ((a, oe3) :: (X.pn ++ pins))) S3 hg hm q hdbg
      · exact ld_blt (X := X.suite a ((a, oe3) :: (X.pn ++ pins))) S3 hg hm hv q hnn hdbg
    refine wpAny_Tuple (wpAny_items_cons (test hc1 (wpAny_items_cons (test hc2 ?_)))) 
    refine wpAny_pure ⟨by show 2 ≤ sizeLine; rw [sizeLine_eq]; omega, ?_⟩
    have kk5 : ∀ b o, h3.get? b = some o → (h3.push { cls := .type "tuple", data := .seq [c1, c2].toArray }).get? b = some o := fun b o e => Heap.get?_push_of_some _ e
    have hp5 : (h3.push { cls := .type "tuple", data := .seq [c1, c2].toArray }).get? h3.objs.size = some { cls := .type "tuple", data := .seq [c1, c2].toArray } := Heap.get?_push_size h3 rfl
    have fl5 := flying_push kk5 fl3
    have up5 := up3.trans (Heap.UpToSlots.of_keeps kk5)
    have J5 : Inv X pins σ' H' { s' with heap := h3.push { cls := .type "tuple", data := .seq [c1, c2].toArray } } := J.landed nb fl5.1 (up.trans up5) os ag
    have LT : PySem.W.Looks (model X.prog X.w) (h3.push { cls := .type "tuple", data := .seq [c1, c2].toArray }) (typeOf (.ref a)) cls := fun A Q E s k q => wpAny_typeOf_ref (k _ _ (kk5 _ _ he3)) (by rw [hz3.1]; exact q)
    have LM := PySem.W.exm_tup2 (M := model X.prog X.w) (J5.kIn) LT hp5 hb1
    refine LM.here ?_
    generalize h3.push { cls := .type "tuple", data := .seq [c1, c2].toArray } = h5 at *
    cases b with
    | true =>
      refine codeAny_handlers_suite ?_
      refine HandSPX.lands_againZ fl5 fun h4 fl4 up4 => ?_
      have J4 : Inv X pins σ' H' { s' with heap := h4 } := J.landed nb fl4.1 ((up.trans up5).trans up4) os ag
      obtain ⟨oe4, vs4, he4, hz4, hd4⟩ := fl4.there
      have S4 := J4.suite he4 hd4 na nL nF
      refine wpAny_mono ((hsu a oe4 cls d (X.pn ++ pins) hz4 ⟨_, hd4⟩).run [] _ _ H' _ S4 (hyes rfl a na)) (fun f s6 hsp => ?_) (fun _ _ z => False.elim z)
      cases f with
      | next =>
        obtain ⟨σ6, H6, S6, q6⟩ := hsp
        exact ⟨_, _, S6.unsuite ok, q6⟩
      | brk =>
        obtain ⟨σ6, H6, S6, q6⟩ := hsp
        exact ⟨_, _, S6.unsuite ok, q6⟩
      | cont =>
        obtain ⟨σ6, H6, S6, q6⟩ := hsp
        exact ⟨_, _, S6.unsuite ok, q6⟩
      | ret u =>
        obtain ⟨v6, σ6, H6, S6, r6, q6⟩ := hsp
        exact ⟨_, _, _, S6.unsuite ok, r6, q6⟩
    | false =>
      show wpAny _ X.A (handleBy (.ref a) X.env []) _ _ _
      refine wpAny_handleBy_nil ?_
      obtain ⟨k1, k2, k3, oe, vs, T, oT, ts', he, hz, hd, h1, hr⟩ := id fl5
      unfold PySem.passOn
      refine wpAny_bind (wpAny_field he hd h1 ?_)
      rw [if_neg (show ¬ ((Value.ref T == Value.none) = true) from by simp)]
      have fin : wpAny (model X.prog X.w) X.A (setFlight (.ref a) X.env.frame) (fun _ s4 => wpAny (model X.prog X.w) X.A (throw (.ref a) : Sem Flow) (SP X pins D) X.xe s4) X.xe { s' with heap := h5 } := by
        rw [hf]
        refine HandSPX.setFlight_upZ fl5 fun h4 hh4 up4 => wpAny_throw (tk _ _ ?_)
        exact ⟨a, B, sI, pins, σ', H', cls, d, rfl, J, nb, (up.trans up5).trans up4, .inr (.inr (by rw [hs]; exact hh4)), na, os, ag, hno rfl⟩
      first
        | exact wpAny_bind (wpAny_pure (wpAny_bind fin))
        | exact wpAny_bind fin
  · cases f with
    | next =>
      obtain ⟨σ', H', J', q⟩ := hsp
      exact wpAny_execs_nil ⟨σ', H', J'.ofTry ok, q⟩
    | brk =>
      obtain ⟨σ', H', J', q⟩ := hsp
      exact ⟨σ', H', J'.ofTry ok, q⟩
    | cont =>
      obtain ⟨σ', H', J', q⟩ := hsp
      exact ⟨σ', H', J'.ofTry ok, q⟩
    | ret u =>
      obtain ⟨v, σ', H', J', r, q⟩ := hsp
      exact ⟨v, σ', H', J'.ofTry ok, r, q⟩
end
end Bs
namespace Bs
open PySem L2 TL PySem.Spec PyProof.Rows PySem.SeqAt
/-! ### is True, is not True of a bool -/
section
variable {X : Cx}
def rIsB : R2 := fun x y H Q => ∃ b c : Bool, x = .bl b ∧ y = .bl c ∧ Q (.bl (b == c)) H
def rIsnotB : R2 := fun x y H Q => ∃ b c : Bool, x = .bl b ∧ y = .bl c ∧ Q (.bl (b != c)) H
theorem op_isB : OpR X (compareOp .Is) rIsB := by
  intro pins s σ H x y v u Q I rx ry h
  obtain ⟨b, c, rfl, rfl, q⟩ := h
  cases rx
  cases ry
  exact is_bool ⟨.bl (b == c), H, I, rfl, q⟩
theorem op_isnotB : OpR X (compareOp .IsNot) rIsnotB := by
  intro pins s σ H x y v u Q I rx ry h
  obtain ⟨b, c, rfl, rfl, q⟩ := h
  cases rx
  cases ry
  exact isnot_bool ⟨.bl (b != c), H, I, rfl, q⟩
end
end Bs
namespace Bs
open PySem L2 TL PySem.Spec PyProof.Rows PySem.SeqAt
/-! ### several clauses, each with a name -/
abbrev TSx := Addr → Value → Option Addr → TS
/-- what the clauses wish of an error of the body, one after the other -/
def wManyAs (K : PySem.W.Frag) (Wout : WX) (D : Ends) : List (Value × Nat × TSx) → WX
  | [] => Wout
  | (c, i, ts) :: r => fun cls d σ H => ∃ b, PySem.W.exmOne K cls c = some b ∧ (b = true → ∀ a, H a = none → ts a cls d { nx := fun σ' H' => D.nx (σ'.set i none) H', rt := D.rt, bk := fun σ' H' => D.bk (σ'.set i none) H', ct := fun σ' H' => D.ct (σ'.set i none) H' } (σ.set i (some (.ref a))) H) ∧
      (b = false → wManyAs K Wout D r cls d σ H)
inductive HdsAs (X : Cx) : List ExceptHandler → List (Value × Nat × TSx) → Prop
  | nil : HdsAs X [] []
  | cons {x n : Str} {c : Value} {i : Nat} {ts : TSx} {b₀ : Stmt} {suite : List Stmt} {np pos' : Pos} {hds : List ExceptHandler} {l : List (Value × Nat × TSx)} (hi : X.N[i]? = some n) (hln : X.env.kindOf n = some .local) (hc : Names X x c)
      (hsu : ∀ (a : Addr) (oe : Obj) (cls : Value) (d : Option Addr) (pn : List (Addr × Obj)), L2N.Zn cls d oe → (∃ vs, oe.data = .fields vs) → PSs (X.suite a ((a, oe) :: pn)) (b₀ :: suite) (ts a cls d)) (r : HdsAs X hds l) :
      HdsAs X (.ExceptHandler (some (.Name x np)) (some n) (b₀ :: suite) pos' :: hds) ((c, i, ts) :: l)
section
variable {X : Cx} {body : List Stmt} {h₀ : ExceptHandler} {hds : List ExceptHandler} {l : List (Value × Nat × TSx)} {pos : Pos} {tb : WX → TS} {Wout : WX}
theorem ps_try_manyAs (hs : X.stack = X.env :: X.outer) (hf : X.env.frame = some X.env.locals) (hN : X.N.Nodup) (tk : L2N.Takes X Wout)
    (hb : ∀ (W : WX) (pn : List (Addr × Obj)) (xe : Value → Shared → Prop), L2N.Takes (X.tr pn xe) W → PassesOwn (model X.prog X.w) X.A X.env xe → PSs (X.tr pn xe) body (tb W))
    (hh : HdsAs X (h₀ :: hds) l) : PS X (.Try body (h₀ :: hds) [] [] pos) (fun D σ H => tb (wManyAs X.K Wout D l) D σ H) := by
  refine ⟨fun pins s σ H D I h => ?_⟩
  have ok := I.ok
  have hfr : X.A.frames = some (X.env :: X.outer) := by rw [ok.frames, hs]
  refine wpAny_Try_except ?_
  refine wpAny_mono ((hb (wManyAs X.K Wout D l) (X.pn ++ pins) (fun e s₁ => wpAny (model X.prog X.w) X.A (noteFrame e X.env) (fun _ s₂ => wpAny (model X.prog X.w) X.A (setFlight e none) (fun _ s₃ =>
    wpAny (model X.prog X.w) X.A (handleBy e X.env (h₀ :: hds)) (SP X pins D) X.xe s₃) X.xe s₂) X.xe s₁) (fun u s' xx => ?_) PassesOwn.looking).run [] s σ H D (I.toTry _) h) (fun f s1 hsp => ?_) (fun e s1 he => he)
  · obtain ⟨a, B, sI, pins', σ', H', cls, d, rfl, J', nb, up, sky, na, os, ag, w⟩ := xx
    have J : Inv X pins σ' H' sI := J'.ofTry ok
    have sky' : L2.Sky B (X.env :: X.outer) a (L2N.Zn cls d) X.env.locals s'.heap := by rw [← hs]; exact sky
    show wpAny (model X.prog X.w) X.A (noteFrame (.ref a) X.env) _ _ _
    refine L2N.Sky.land L2N.Zn.steady hfr hf sky' fun h3 fl3 up3 => ?_
    have J3 : Inv X pins σ' H' { s' with heap := h3 } := J.landed nb fl3.1 (up.trans up3) os ag
    obtain ⟨oe3, vs3, he3, hz3, hd3⟩ := fl3.there
    have notFr : ∀ {h : Heap} {o : Obj} {vs : Array Value}, h.FunFrames B (X.env :: X.outer) → h.get? a = some o → o.data = .fields vs → a ∉ frs (X.env :: X.outer) := fun {h o vs} ff e dd hm => by
      obtain ⟨_, o', e', hnf⟩ := ff.mem hm
      rw [e] at e'; cases e'
      exact hnf _ dd
    have nfr := notFr fl3.2.2.1 he3 hd3
    have nL : a ≠ X.env.locals := fun z => nfr (List.mem_filterMap.mpr ⟨X.env, List.mem_cons_self, by rw [hf, z]⟩)
    have nF : a ∉ X.fs := fun hm => by
      obtain ⟨e, he, q⟩ := List.mem_filterMap.mp hm
      exact nfr (List.mem_filterMap.mpr ⟨e, List.mem_cons_of_mem _ he, q⟩)
    have S3 := J3.suite he3 hd3 na nL nF
    have go : ∀ {hds' : List ExceptHandler} {l' : List (Value × Nat × TSx)}, HdsAs X hds' l' → wManyAs X.K Wout D l' cls d σ' H' →
        wpAny (model X.prog X.w) X.A (handleBy (.ref a) X.env hds') (SP X pins D) X.xe { s' with heap := h3 } := by
      intro hds' l' hk
      induction hk with
      | nil =>
        intro w
        refine wpAny_handleBy_nil ?_
        obtain ⟨k1, k2, k3, oe, vs, T, oT, ts', he, hz, hd, h1, hr⟩ := id fl3
        unfold PySem.passOn
        refine wpAny_bind (wpAny_field he hd h1 ?_)
        rw [if_neg (show ¬ ((Value.ref T == Value.none) = true) from by simp)]
        have fin : wpAny (model X.prog X.w) X.A (setFlight (.ref a) X.env.frame) (fun _ s4 => wpAny (model X.prog X.w) X.A (throw (.ref a) : Sem Flow) (SP X pins D) X.xe s4) X.xe { s' with heap := h3 } := by
          rw [hf]
          refine HandSPX.setFlight_upZ fl3 fun h4 hh4 up4 => wpAny_throw (tk _ _ ?_)
          exact ⟨a, B, sI, pins, σ', H', cls, d, rfl, J, nb, (up.trans up3).trans up4, .inr (.inr (by rw [hs]; exact hh4)), na, os, ag, w⟩
        first
          | exact wpAny_bind (wpAny_pure (wpAny_bind fin))
          | exact wpAny_bind fin
      | @cons x n c i ts b₀ suite np pos' hds2 l2 hi hln hc hsu r ih =>
        intro w
        obtain ⟨b, hb1, hyes, hno⟩ := w
        have hloc : Loc X.env.scope n := .inl hln
        refine wpAny_handleBy_cons (codeAny_handlers_test ?_) (by intro q; cases q)
        have LT : PySem.W.Looks (model X.prog X.w) h3 (typeOf (.ref a)) cls := fun A Q E s k q => wpAny_typeOf_ref (k _ _ he3) (by rw [hz3.1]; exact q)
        have LM := PySem.W.exm_one (M := model X.prog X.w) (J3.kIn) LT hb1
        have test : ∀ {Q : Value → Shared → Prop} {E : Value → Shared → Prop}, Q c { s' with heap := h3 } → wpAny (model X.prog X.w) (X.A.mark (some (.ref a))) (eval (.Name x np) X.env) Q E { s' with heap := h3 } := fun {Q E} q => by
          obtain ⟨hg, hdbg, hm | ⟨hm, hv, hnn⟩⟩ := hc
          · exact ld_glob (X := X.suite a ((a, oe3) :: (X.pn ++ pins))) S3 hg hm q hdbg
          · exact ld_blt (X := X.suite a ((a, oe3) :: (X.pn ++ pins))) S3 hg hm hv q hnn hdbg
        refine test (LM.here ?_)
        cases b with
        | true =>
          refine codeAny_handlers_suite_as ?_
          refine HandSPX.lands_againZ fl3 fun h4 fl4 up4 => ?_
          have J4 : Inv X pins σ' H' { s' with heap := h4 } := J.landed nb fl4.1 ((up.trans up3).trans up4) os ag
          obtain ⟨oe4, vs4, he4, hz4, hd4⟩ := fl4.there
          have S4 := J4.suite he4 hd4 na nL nF
          refine store_ok (X := X.suite a ((a, oe4) :: (X.pn ++ pins))) (v := .ref a) S4 hN hi hloc rfl (fun s5 S5 => ?_) (.inr hln)
          refine wpAny_mono ((hsu a oe4 cls d (X.pn ++ pins) hz4 ⟨_, hd4⟩).run [] s5 _ H' _ S5 (hyes rfl a na)) (fun f s6 hsp => ?_) (fun _ _ z => False.elim z)
          have end_ : ∀ {σ6 : L2.St} {H6 : Hp} {Q : Shared → Prop}, Inv (X.suite a ((a, oe4) :: (X.pn ++ pins))) [] σ6 H6 s6 → (∀ s7, Inv X pins (σ6.set i none) H6 s7 → Q s7) →
              wpAny (model X.prog X.w) X.A (do bindName X.env n .none; unbindBehindTheSuite X.env n pos') (fun _ s7 => Q s7) X.xe s6 := fun {σ6 H6 Q} S6 hq => gone_ok (S6.unsuite ok) hN hi hln hq
          cases f with
          | next =>
            obtain ⟨σ6, H6, S6, q6⟩ := hsp
            exact end_ S6 fun s7 J7 => ⟨_, _, J7, q6⟩
          | brk =>
            obtain ⟨σ6, H6, S6, q6⟩ := hsp
            exact end_ S6 fun s7 J7 => ⟨_, _, J7, q6⟩
          | cont =>
            obtain ⟨σ6, H6, S6, q6⟩ := hsp
            exact end_ S6 fun s7 J7 => ⟨_, _, J7, q6⟩
          | ret u =>
            obtain ⟨v6, σ6, H6, S6, r6, q6⟩ := hsp
            exact end_ S6 fun s7 J7 => ⟨_, _, _, J7, r6, q6⟩
        | false =>
          show wpAny _ X.A (handleBy (.ref a) X.env hds2) _ _ _
          exact ih (hno rfl)
    exact go hh w
  · cases f with
    | next =>
      obtain ⟨σ', H', J', q⟩ := hsp
      exact wpAny_execs_nil ⟨σ', H', J'.ofTry ok, q⟩
    | brk =>
      obtain ⟨σ', H', J', q⟩ := hsp
      exact ⟨σ', H', J'.ofTry ok, q⟩
    | cont =>
      obtain ⟨σ', H', J', q⟩ := hsp
      exact ⟨σ', H', J'.ofTry ok, q⟩
    | ret u =>
      obtain ⟨v, σ', H', J', r, q⟩ := hsp
      exact ⟨v, σ', H', J'.ofTry ok, r, q⟩
end
end Bs
namespace GQ2
open PySem PySem.SeqAt
open AutoSeq1 (wpAny_loadPart')
open MeetsSeq MeetsSeq2 MeetsSeq3 SeqRoads2
section
variable {prog : Program} {w : World} {A : Around} {R : Result → Shared → Prop}
/-- == of two tuples whose first items are not equal, or of the empty one with one that is not -/
theorem tuple_eqF (l b : Addr) (its its2 : List Value) (u : Value) (n n2 : Nat) (dd dd2 : Option Addr) (sl sl2 : Array (Option Value)) {s : Shared}
    (h0 : its = [] → R (.ok (.ret (.bool false))) s)
    (h1 : ∀ v r, its = v :: r → wpAny (model prog w) A.in1 (eqBool v u) (fun q s' => q = false ∧ R (.ok (.ret (.bool false))) s') (fun e s' => R (.error e) s') s)
    (hl1 : s.heap.get? l = some { cls := .type "tuple", dict := dd, data := .seq its.toArray n, slots := sl }) (hb1 : s.heap.get? b = some { cls := .type "tuple", dict := dd2, data := .seq (u :: its2).toArray n2, slots := sl2 }) :
    wpAny (model prog w) A.in1 (Builtin.«tuple.__eq__» ⟨[.ref l, .ref b], []⟩) (GQ.FinOf prog w A R) (fun e s' => R (.error e) s') s := by
  have f2 := AutoSeq1.sub_tuple_tuple
  obtain ⟨hp, g, d, tk, os⟩ := s
  wp_walk using wpAny_loadPart' hl1, wpAny_loadPart' hb1, wpAny_forIn_list _ (fun rest b s' => b.1 = none ∧ rest = its.zip (u :: its2) ∧ s' = ⟨hp, g, d, tk, os⟩) _
  case turn =>
    rintro ⟨y, x⟩ rest b s' ⟨hb', hz, rfl⟩
    cases its with
    | nil => cases hz
    | cons v r =>
      rw [List.zip_cons_cons] at hz
      injection hz with hyx hrest
      injection hyx with e1 e2
      subst e1 e2
      refine wpAny_bind (wpAny_mono (h1 _ _ rfl) (fun q s2 q2 => ?_) fun _ _ x => x)
      obtain ⟨hr, q2⟩ := q2
      subst hr
      wp_walk
      exact q2
  case fin =>
    rintro ⟨b1, b2⟩ s' ⟨hb', hz, rfl⟩
    simp only at hb'
    subst hb'
    cases its with
    | nil =>
      have := h0 rfl
      wp_walk
      simpa [Builtin.Tuple.tupleCompareSizes] using this
    | cons v r => cases hz
  case h =>
    exact ⟨rfl, by simp, rfl⟩
end
end GQ2
namespace Bs
open PySem L2 TL PySem.Spec PyProof.Rows PySem.SeqAt
section
variable {X : Cx} {CX : CXT} {k : Nat} {f C : Addr} {fd : FuncData} {ps : List Str} {sp : Sp}
/-- a tuple of own objects against a tuple that begins with a text: not equal -/
def rEqTF (K : PySem.W.Frag) (C : Addr) (sp : Sp) : R2 := fun x y H Q => ∃ (a b : Addr) (xs : List V) (w : Str) (ys : List V), x = .ref a ∧ y = .ref b ∧ SqT K H a xs ∧ SqT K H b (.str w :: ys) ∧
  ((xs = [] ∧ Q (.bl false) H) ∨ ∃ c dx fs r, xs = .ref c :: r ∧ H c = some (.ins C dx fs) ∧ sp [.ref c, .str w] H (fun v H' => v = .bl false ∧ Q (.bl false) H') (fun _ _ _ => False))
theorem op_eqTF (S : DunC X.K C "__eq__" f) (F : FnOk X.prog X.w X.K X.mg X.base CX k f fd ps sp) (hr : Room (k + 1) X.A) (hb : Binds X.K fd ps []) (hx : Passes CX X (fun _ _ _ => False)) (hstr : PySem.W.subIn X.K (.type "str") (.ref C) = some false) : OpR X (compareOp .Eq) (rEqTF X.K C sp) := by
  intro pins s σ H x y v u Q I rx ry h
  obtain ⟨a, b, xs, w, ys, rfl, rfl, ha, hb', hq⟩ := h
  cases rx
  cases ry
  obtain ⟨its, r, e, z⟩ := I.tuple ha
  obtain ⟨its2, r2, e2, z2⟩ := I.tuple hb'
  obtain ⟨⟨cls, dd, data, sl⟩, ho, hc, n, hd⟩ := id e
  obtain ⟨⟨cls2, dd2, data2, sl2⟩, ho2, hc2, n2, hd2⟩ := id e2
  simp only at hc hd hc2 hd2
  subst hc hd hc2 hd2
  cases r2 with
  | cons rw_ rr =>
    rename_i u2 its2'
    obtain ⟨tw, rfl⟩ := rw_
    show wpAny (model X.prog X.w) X.A (richCompare .Eq (.ref a) (.ref b)) (EP X pins σ Q) X.xe s
    refine wpAny_richCompare_same_room (op := .Eq) ⟨_, ho, rfl⟩ ⟨_, ho2, rfl⟩ PySem.F.slot_tuple_eq (GQ.call_here PySem.F.slot_tuple_eq ⟨_, ho, rfl⟩ PySem.F.entry_tuple_eq (PySem.F.args_tuple_eq_2 _ _) ?_) hr.units0
    refine GQ2.tuple_eqF (R := wants (fun v s' => v ≠ .notImplemented ∧ EP X pins σ Q v s') X.xe) a b its its2' _ n n2 dd dd2 sl sl2 (fun hi => ?_) (fun v rr hi => ?_) ho ho2
    · subst hi
      cases r
      rcases hq with ⟨_, q⟩ | ⟨_, _, _, _, hxs, _⟩
      · exact ⟨(fun x => nomatch x), .bl false, H, I, rfl, q⟩
      · cases hxs
    · subst hi
      rcases hq with ⟨hxs, _⟩ | ⟨c, dx, fs, r', hxs, hc, q⟩
      · subst hxs
        cases r
      · subst hxs
        cases r with
        | cons rv rr' =>
          cases rv
          obtain ⟨mA, J, _⟩ := ins_get I.hok hc
          obtain ⟨od, J, _⟩ := J.look
          obtain ⟨m, hF⟩ := I.fr
          have sb : Sub X k X.A.in1 := ⟨hr.in1, rfl⟩
          unfold eqBool
          refine wpAny_holding ?_
          refine wpAny_ite_split (fun hab => absurd (eq_of_beq hab) (by intro z; cases z)) (fun _ => ?_)
          refine wpAny_bind ?_
          have hl := F.len _ _ _ _ q
          have e0 : Env0 X.prog X.w X.K X.mg X.base X.A.in1 X.stack s H := by
            have e := I.env0
            exact ⟨by rw [sb.fr]; exact e.frames, e.mod, e.bs, e.bsz, e.funs, e.frf, e.hok, e.bare⟩
          have rv2 : Vals [V.ref c, V.str w] [Value.ref c, Value.str w tw] := .cons rfl (.cons ⟨tw, rfl⟩ .nil)
          have hB : PySem.W.Looks (model X.prog X.w) s.heap (typeOf (.str w tw)) (.type "str") := PySem.W.Looks.of_pure rfl
          refine PySem.W.cmp_K (op := .Eq) (tb := .type "str") sb.room.units0 hF I.ok.mod.kin J hB (by rw [PySem.W.notFirst, hstr]; rfl) S.at_ S.fn ?_
          refine wpAny_call (codeAny_mono (F.run X.A.in1 X.stack s H ⟨[.ref c, .str w tw], []⟩ [.ref c, .str w tw] [.ref c, .str w] _ _ sb.room e0 (by
            have := hb s [.ref c, .str w tw] I.kIn (by simpa using hl)
            simpa using this) rv2 q) fun r s' hq => ?_)
          cases r with
          | error e => exact (hx pins σ H s e s' I hq)
          | ok fl =>
            cases fl with
            | ret w2 =>
              obtain ⟨z, H', I', rz, ez, ex⟩ := I.after hq
              subst ez
              cases rz
              exact wpAny_truthy_bool ⟨rfl, (fun x => nomatch x), .bl false, H', I', rfl, ex⟩
            | next => exact False.elim hq
            | brk => exact False.elim hq
            | cont => exact False.elim hq
/-- one of two readings -/
def rOr (r r' : R2) : R2 := fun x y H Q => r x y H Q ∨ r' x y H Q
theorem op_or {op : Value → Value → Sem Value} {r r' : R2} (h : OpR X op r) (h' : OpR X op r') : OpR X op (rOr r r') := by
  intro pins s σ H x y v u Q I rx ry hq
  rcases hq with hq | hq
  · exact h pins s σ H x y v u Q I rx ry hq
  · exact h' pins s σ H x y v u Q I rx ry hq
end
end Bs
namespace Bs
open PySem L2 TL PySem.Spec PyProof.Rows PySem.SeqAt
/-- isinstance(text, C) -/
theorem call_isStr {X : Cx} {C : Addr} (h : PySem.W.kitOne X.K (.type "str") (.ref C) = some false) : CallR X (.builtin "isinstance") (fun xs H Q => ∃ w : Str, xs = [.str w, .ref C] ∧ Q (.bl false) H) := by
  intro pins s σ H xs us Q I r hq
  obtain ⟨w, rfl, q⟩ := hq
  obtain ⟨u, w', rfl, ru, rw'⟩ := vals2 r
  cases rw'
  exact isinst_ok I ru (.str w) h fun tk => ⟨.bl false, H, I.tok _, rfl, q⟩
end Bs
namespace K78
open PySem L2 TL Bs NdefX
local macro_rules | `(tactic| walk_at "wp") => `(tactic| simp only [tSeq, tAsg, gName, gTup, gCons, gNil, tVar, tC, tOp, tUn, rI, rI0, rU, tCB, tCons, tNil, tIfS, tRet, tRetN, tNext, tNever, test_eq, tB, tTup, tLst, tCall, tIf, tAndV, tOrV, tNotV, tNot, tAnd, tOr, rEq, rNe, scal_ii, scal_ss, scal_bb, dec_ii, dec_ss, dec_bb, for_eq, lc_eq, while_eq, tDrop, tYes, iList, iTup, iStr, iRng1, iRng2, RZ.iZipA, L2.start, rIxL, rIxT, rIxS, rSlS, cxK, tSl, tPart, tNoPart, tBM, tBM0, rAppend, rExtend, rRepS, rGcd, gSub, rSetL, tAug, ipI, rAdd, rSub, tM1, tM0,
  List.map_cons, List.map_nil, List.length_cons, List.length_nil, List.cons_append, List.nil_append, List.append_nil, List.getElem?_cons_succ, List.getElem?_cons_zero, List.set_cons_succ, List.set_cons_zero, Nat.reduceAdd, Nat.reduceSub, List.replicate_succ, List.replicate_zero, wipe,
  Option.some.injEq, V.int.injEq, V.str.injEq, sgn_eq, V.ref.injEq, V.bl.injEq, exists_eq_left, exists_eq_left', exists_and_left, exists_eq_right, List.cons.injEq, and_true, true_and, ex_bl, ex_int, exists_const, Nat.zero_add, Int.toNat_natCast, Int.zero_add, and_assoc, reduceCtorEq, false_and, and_false, exists_false, or_false, false_or, eq_self, decide_true, decide_false, ite_true, ite_false, if_true, if_false, Bool.false_eq_true, Bool.not_true, Bool.not_false, ↓reduceIte])
def top (i : Nat) : Stmt := PySem.Challenge.pw_loopworks_k78_what_is_never_given_up.main.body.getD i (.Pass ⟨0, 0, 0, 0⟩)
def clsBody : Stmt → List Stmt
  | .ClassDef _ _ _ b _ _ _ _ _ _ _ => b
  | _ => []
def mth (i j : Nat) : Stmt := (clsBody (top i)).getD j (.Pass ⟨0, 0, 0, 0⟩)
abbrev PRG : Program := PySem.Challenge.pw_loopworks_k78_what_is_never_given_up
abbrev P : Program := PRG
abbrev s_is_integer : Stmt := top 18
theorem sc_is_integer : FnScope ["value"] ["value"] (defScope s_is_integer) := ⟨rfl, rfl, rfl, by decide +kernel, rfl, by decide +kernel, by decide +kernel⟩
abbrev s_is_tuple_of_integers : Stmt := top 19
theorem sc_is_tuple_of_integers : FnScope ["value", "count", "number"] ["value", "count"] (defScope s_is_tuple_of_integers) := ⟨rfl, rfl, rfl, by decide +kernel, rfl, by decide +kernel, by decide +kernel⟩
abbrev s_is_constraint : Stmt := top 20
theorem sc_is_constraint : FnScope ["row", "variables"] ["row", "variables"] (defScope s_is_constraint) := ⟨rfl, rfl, rfl, by decide +kernel, rfl, by decide +kernel, by decide +kernel⟩
abbrev s_impossible : Stmt := top 21
theorem sc_impossible : FnScope ["variables"] ["variables"] (defScope s_impossible) := ⟨rfl, rfl, rfl, by decide +kernel, rfl, by decide +kernel, by decide +kernel⟩
abbrev s_common_divisor : Stmt := top 26
theorem sc_common_divisor : FnScope ["first", "numbers", "found", "number"] ["first", "numbers"] (defScope s_common_divisor) := ⟨rfl, rfl, rfl, by decide +kernel, rfl, by decide +kernel, by decide +kernel⟩
abbrev s_divided : Stmt := top 27
theorem sc_divided : FnScope ["expression", "divisor", "number"] ["expression", "divisor"] (defScope s_divided) := ⟨rfl, rfl, rfl, by decide +kernel, rfl, by decide +kernel, by decide +kernel⟩
abbrev s_reduced_inequality : Stmt := top 23
theorem sc_reduced_inequality : FnScope ["divisor", "expression"] ["divisor", "expression"] (defScope s_reduced_inequality) := ⟨rfl, rfl, rfl, by decide +kernel, rfl, by decide +kernel, by decide +kernel⟩
abbrev s_reduced_equation : Stmt := top 24
theorem sc_reduced_equation : FnScope ["divisor", "expression", "numbers", "leading", "number"] ["divisor", "expression"] (defScope s_reduced_equation) := ⟨rfl, rfl, rfl, by decide +kernel, rfl, by decide +kernel, by decide +kernel⟩
abbrev s_reduced_multiple : Stmt := top 25
theorem sc_reduced_multiple : FnScope ["m", "expression", "numbers", "number", "divisor"] ["m", "expression"] (defScope s_reduced_multiple) := ⟨rfl, rfl, rfl, by decide +kernel, rfl, by decide +kernel, by decide +kernel⟩
abbrev s_reduced_constraint : Stmt := top 22
theorem sc_reduced_constraint : FnScope ["constraint", "expression", "divisor"] ["constraint"] (defScope s_reduced_constraint) := ⟨rfl, rfl, rfl, by decide +kernel, rfl, by decide +kernel, by decide +kernel⟩
abbrev s_reduced_rows : Stmt := top 28
theorem sc_reduced_rows : FnScope ["variables", "rows", "found", "places", "row", "reduced", "key", "place"] ["variables", "rows"] (defScope s_reduced_rows) := ⟨rfl, rfl, rfl, by decide +kernel, rfl, by decide +kernel, by decide +kernel⟩
abbrev s_System___init__ : Stmt := mth 17 0
theorem sc_System___init__ : FnScope ["self", "variables", "rows", "row"] ["self", "variables", "rows"] (defScope s_System___init__) := ⟨rfl, rfl, rfl, by decide +kernel, rfl, by decide +kernel, by decide +kernel⟩
abbrev s_System_is_impossible : Stmt := mth 17 6
theorem sc_System_is_impossible : FnScope ["self"] ["self"] (defScope s_System_is_impossible) := ⟨rfl, rfl, rfl, by decide +kernel, rfl, by decide +kernel, by decide +kernel⟩
abbrev s_System_reduced : Stmt := mth 17 7
theorem sc_System_reduced : FnScope ["self"] ["self"] (defScope s_System_reduced) := ⟨rfl, rfl, rfl, by decide +kernel, rfl, by decide +kernel, by decide +kernel⟩
abbrev s_closed : Stmt := top 46
theorem sc_closed : FnScope ["system"] ["system"] (defScope s_closed) := ⟨rfl, rfl, rfl, by decide +kernel, rfl, by decide +kernel, by decide +kernel⟩
abbrev s_made_by : Stmt := top 45
theorem sc_made_by : FnScope ["system", "step"] ["system", "step"] (defScope s_made_by) := ⟨rfl, rfl, rfl, by decide +kernel, rfl, by decide +kernel, by decide +kernel⟩
abbrev s_check_left : Stmt := top 53
theorem sc_check_left : FnScope ["systems", "system"] ["systems"] (defScope s_check_left) := ⟨rfl, rfl, rfl, by decide +kernel, rfl, by decide +kernel, by decide +kernel⟩
abbrev s_check_numbers : Stmt := top 54
theorem sc_check_numbers : FnScope ["systems", "system", "row", "number"] ["systems"] (defScope s_check_numbers) := ⟨rfl, rfl, rfl, by decide +kernel, rfl, by decide +kernel, by decide +kernel⟩
abbrev s_left_behind : Stmt := top 43
theorem sc_left_behind : FnScope ["left", "steps", "make", "index", "step", "made"] ["left", "steps", "make"] (defScope s_left_behind) := ⟨rfl, rfl, rfl, by decide +kernel, rfl, by decide +kernel, by decide +kernel⟩
abbrev s_remaining : Stmt := top 42
theorem sc_remaining : FnScope ["system", "steps"] ["system", "steps"] (defScope s_remaining) := ⟨rfl, rfl, rfl, by decide +kernel, rfl, by decide +kernel, by decide +kernel⟩
abbrev s_refutes : Stmt := top 44
theorem sc_refutes : FnScope ["system", "steps"] ["system", "steps"] (defScope s_refutes) := ⟨rfl, rfl, rfl, by decide +kernel, rfl, by decide +kernel, by decide +kernel⟩
abbrev s_lifted : Stmt := top 66
theorem sc_lifted : FnScope ["point", "trail", "system", "k", "index"] ["point", "trail"] (defScope s_lifted) := ⟨rfl, rfl, rfl, by decide +kernel, rfl, by decide +kernel, by decide +kernel⟩
abbrev s_Budget___init__ : Stmt := mth 62 0
theorem sc_Budget___init__ : FnScope ["self", "effort"] ["self", "effort"] (defScope s_Budget___init__) := ⟨rfl, rfl, rfl, by decide +kernel, rfl, by decide +kernel, by decide +kernel⟩
abbrev s_Budget_spend : Stmt := mth 62 1
theorem sc_Budget_spend : FnScope ["self"] ["self"] (defScope s_Budget_spend) := ⟨rfl, rfl, rfl, by decide +kernel, rfl, by decide +kernel, by decide +kernel⟩
abbrev s_Examination___init__ : Stmt := mth 63 0
theorem sc_Examination___init__ : FnScope ["self", "system"] ["self", "system"] (defScope s_Examination___init__) := ⟨rfl, rfl, rfl, by decide +kernel, rfl, by decide +kernel, by decide +kernel⟩
abbrev s_Examination_take : Stmt := mth 63 1
theorem sc_Examination_take : FnScope ["self", "steps", "left", "trails", "index"] ["self", "steps"] (defScope s_Examination_take) := ⟨rfl, rfl, rfl, by decide +kernel, rfl, by decide +kernel, by decide +kernel⟩
abbrev s_Examination_look : Stmt := mth 63 3
theorem sc_Examination_look : FnScope ["self", "system", "quotients", "row", "tableau", "conflict", "values"] ["self"] (defScope s_Examination_look) := ⟨rfl, rfl, rfl, by decide +kernel, rfl, by decide +kernel, by decide +kernel⟩
abbrev s_examined : Stmt := top 65
theorem sc_examined : FnScope ["system", "budget", "examination", "done", "point"] ["system", "budget"] (defScope s_examined) := ⟨rfl, rfl, rfl, by decide +kernel, rfl, by decide +kernel, by decide +kernel⟩
abbrev s_examine : Stmt := top 64
theorem sc_examine : FnScope ["system", "effort"] ["system", "effort"] (defScope s_examine) := ⟨rfl, rfl, rfl, by decide +kernel, rfl, by decide +kernel, by decide +kernel⟩
abbrev s_law_cell : Stmt := top 72
theorem sc_law_cell : FnScope ["script", "k"] ["script", "k"] (defScope s_law_cell) := ⟨rfl, rfl, rfl, by decide +kernel, rfl, by decide +kernel, by decide +kernel⟩
abbrev s_law_draws : Stmt := top 73
theorem sc_law_draws : FnScope ["cell", "count", "result", "rest", "k", "mixed"] ["cell", "count"] (defScope s_law_draws) := ⟨rfl, rfl, rfl, by decide +kernel, rfl, by decide +kernel, by decide +kernel⟩
abbrev s_law_value : Stmt := top 74
theorem sc_law_value : FnScope ["expression", "point", "total", "coefficient", "value"] ["expression", "point"] (defScope s_law_value) := ⟨rfl, rfl, rfl, by decide +kernel, rfl, by decide +kernel, by decide +kernel⟩
abbrev s_law_holds : Stmt := top 75
theorem sc_law_holds : FnScope ["constraint", "point", "value"] ["constraint", "point"] (defScope s_law_holds) := ⟨rfl, rfl, rfl, by decide +kernel, rfl, by decide +kernel, by decide +kernel⟩
abbrev s_law_all_hold : Stmt := top 76
theorem sc_law_all_hold : FnScope ["rows", "point", "row"] ["rows", "point"] (defScope s_law_all_hold) := ⟨rfl, rfl, rfl, by decide +kernel, rfl, by decide +kernel, by decide +kernel⟩
abbrev s_law_point : Stmt := top 77
theorem sc_law_point : FnScope ["cell", "variables", "number"] ["cell", "variables"] (defScope s_law_point) := ⟨rfl, rfl, rfl, by decide +kernel, rfl, by decide +kernel, by decide +kernel⟩
abbrev s_law_constraint : Stmt := top 78
theorem sc_law_constraint : FnScope ["cell", "point", "numbers", "size", "coefficients", "number", "value", "kind", "modulus", "slack", "constant"] ["cell", "point"] (defScope s_law_constraint) := ⟨rfl, rfl, rfl, by decide +kernel, rfl, by decide +kernel, by decide +kernel⟩
abbrev s_law_rows : Stmt := top 79
theorem sc_law_rows : FnScope ["script", "start", "count", "point", "k"] ["script", "start", "count", "point"] (defScope s_law_rows) := ⟨rfl, rfl, rfl, by decide +kernel, rfl, by decide +kernel, by decide +kernel⟩
abbrev s_law_impossible : Stmt := top 80
theorem sc_law_impossible : FnScope ["cell", "variables", "kind", "number", "zeros"] ["cell", "variables"] (defScope s_law_impossible) := ⟨rfl, rfl, rfl, by decide +kernel, rfl, by decide +kernel, by decide +kernel⟩
abbrev s_law_refuted : Stmt := top 81
theorem sc_law_refuted : FnScope ["system", "found"] ["system", "found"] (defScope s_law_refuted) := ⟨rfl, rfl, rfl, by decide +kernel, rfl, by decide +kernel, by decide +kernel⟩
abbrev s_law : Stmt := top 82
theorem sc_law : FnScope ["script", "effort", "rows", "plain", "found", "variables", "point", "more", "at", "other"] ["script"] (defScope s_law) := ⟨rfl, rfl, rfl, by decide +kernel, rfl, by decide +kernel, by decide +kernel⟩
structure Ad where
  f_is_integer : Addr
  f_is_tuple_of_integers : Addr
  f_is_constraint : Addr
  f_impossible : Addr
  f_common_divisor : Addr
  f_divided : Addr
  f_reduced_inequality : Addr
  f_reduced_equation : Addr
  f_reduced_multiple : Addr
  f_reduced_constraint : Addr
  f_reduced_rows : Addr
  f_System___init__ : Addr
  f_System_is_impossible : Addr
  f_System_reduced : Addr
  f_closed : Addr
  f_made_by : Addr
  f_check_left : Addr
  f_check_numbers : Addr
  f_left_behind : Addr
  f_remaining : Addr
  f_refutes : Addr
  f_lifted : Addr
  f_Budget___init__ : Addr
  f_Budget_spend : Addr
  f_Examination___init__ : Addr
  f_Examination_take : Addr
  f_Examination_look : Addr
  f_examined : Addr
  f_examine : Addr
  f_law_cell : Addr
  f_law_draws : Addr
  f_law_value : Addr
  f_law_holds : Addr
  f_law_all_hold : Addr
  f_law_point : Addr
  f_law_constraint : Addr
  f_law_rows : Addr
  f_law_impossible : Addr
  f_law_refuted : Addr
  f_law : Addr
  d_is_integer : FuncData
  d_is_tuple_of_integers : FuncData
  d_is_constraint : FuncData
  d_impossible : FuncData
  d_common_divisor : FuncData
  d_divided : FuncData
  d_reduced_inequality : FuncData
  d_reduced_equation : FuncData
  d_reduced_multiple : FuncData
  d_reduced_constraint : FuncData
  d_reduced_rows : FuncData
  d_System___init__ : FuncData
  d_System_is_impossible : FuncData
  d_System_reduced : FuncData
  d_closed : FuncData
  d_made_by : FuncData
  d_check_left : FuncData
  d_check_numbers : FuncData
  d_left_behind : FuncData
  d_remaining : FuncData
  d_refutes : FuncData
  d_lifted : FuncData
  d_Budget___init__ : FuncData
  d_Budget_spend : FuncData
  d_Examination___init__ : FuncData
  d_Examination_take : FuncData
  d_Examination_look : FuncData
  d_examined : FuncData
  d_examine : FuncData
  d_law_cell : FuncData
  d_law_draws : FuncData
  d_law_value : FuncData
  d_law_holds : FuncData
  d_law_all_hold : FuncData
  d_law_point : FuncData
  d_law_constraint : FuncData
  d_law_rows : FuncData
  d_law_impossible : FuncData
  d_law_refuted : FuncData
  d_law : FuncData
  p_System_is_impossible : Addr
  t_MOST_EFFORT : Tok
  t_MOST_WEIGHT : Tok
  t_MOST_VARIABLES : Tok
  t_GREATEST : Tok
  C_System : Addr
  C_Budget : Addr
  C_Examination : Addr
structure Txt (K : PySem.W.Frag) (mg : Str → Option Value) (A : Ad) : Prop where
  b_isinstance : mg "isinstance" = none
  b_bool : mg "bool" = none
  b_int : mg "int" = none
  b_all : mg "all" = none
  b_len : mg "len" = none
  b_tuple : mg "tuple" = none
  b_min : mg "min" = none
  b_sum : mg "sum" = none
  b_any : mg "any" = none
  b_abs : mg "abs" = none
  b_enumerate : mg "enumerate" = none
  b_range : mg "range" = none
  b_zip : mg "zip" = none
  u_gcd : mg "gcd" = some (.builtin "math.gcd")
  g_is_integer : mg "is_integer" = some (.ref A.f_is_integer)
  F_is_integer : Fun K "is_integer" "is_integer" s_is_integer A.f_is_integer A.d_is_integer
  B_is_integer : Binds K A.d_is_integer ["value"] []
  g_is_tuple_of_integers : mg "is_tuple_of_integers" = some (.ref A.f_is_tuple_of_integers)
  F_is_tuple_of_integers : Fun K "is_tuple_of_integers" "is_tuple_of_integers" s_is_tuple_of_integers A.f_is_tuple_of_integers A.d_is_tuple_of_integers
  B_is_tuple_of_integers : Binds K A.d_is_tuple_of_integers ["value", "count"] []
  g_is_constraint : mg "is_constraint" = some (.ref A.f_is_constraint)
  F_is_constraint : Fun K "is_constraint" "is_constraint" s_is_constraint A.f_is_constraint A.d_is_constraint
  B_is_constraint : Binds K A.d_is_constraint ["row", "variables"] []
  g_impossible : mg "impossible" = some (.ref A.f_impossible)
  F_impossible : Fun K "impossible" "impossible" s_impossible A.f_impossible A.d_impossible
  B_impossible : Binds K A.d_impossible ["variables"] []
  g_common_divisor : mg "common_divisor" = some (.ref A.f_common_divisor)
  F_common_divisor : Fun K "common_divisor" "common_divisor" s_common_divisor A.f_common_divisor A.d_common_divisor
  B_common_divisor : Binds K A.d_common_divisor ["first", "numbers"] []
  g_divided : mg "divided" = some (.ref A.f_divided)
  F_divided : Fun K "divided" "divided" s_divided A.f_divided A.d_divided
  B_divided : Binds K A.d_divided ["expression", "divisor"] []
  g_reduced_inequality : mg "reduced_inequality" = some (.ref A.f_reduced_inequality)
  F_reduced_inequality : Fun K "reduced_inequality" "reduced_inequality" s_reduced_inequality A.f_reduced_inequality A.d_reduced_inequality
  B_reduced_inequality : Binds K A.d_reduced_inequality ["divisor", "expression"] []
  g_reduced_equation : mg "reduced_equation" = some (.ref A.f_reduced_equation)
  F_reduced_equation : Fun K "reduced_equation" "reduced_equation" s_reduced_equation A.f_reduced_equation A.d_reduced_equation
  B_reduced_equation : Binds K A.d_reduced_equation ["divisor", "expression"] []
  g_reduced_multiple : mg "reduced_multiple" = some (.ref A.f_reduced_multiple)
  F_reduced_multiple : Fun K "reduced_multiple" "reduced_multiple" s_reduced_multiple A.f_reduced_multiple A.d_reduced_multiple
  B_reduced_multiple : Binds K A.d_reduced_multiple ["m", "expression"] []
  g_reduced_constraint : mg "reduced_constraint" = some (.ref A.f_reduced_constraint)
  F_reduced_constraint : Fun K "reduced_constraint" "reduced_constraint" s_reduced_constraint A.f_reduced_constraint A.d_reduced_constraint
  B_reduced_constraint : Binds K A.d_reduced_constraint ["constraint"] []
  g_reduced_rows : mg "reduced_rows" = some (.ref A.f_reduced_rows)
  F_reduced_rows : Fun K "reduced_rows" "reduced_rows" s_reduced_rows A.f_reduced_rows A.d_reduced_rows
  B_reduced_rows : Binds K A.d_reduced_rows ["variables", "rows"] []
  me_System___init__ : Meth K A.C_System "__init__" A.f_System___init__
  F_System___init__ : Fun K "__init__" "System.__init__" s_System___init__ A.f_System___init__ A.d_System___init__
  B_System___init__ : Binds K A.d_System___init__ ["self", "variables", "rows"] []
  pr_System_is_impossible : PropOf K A.C_System "is_impossible" A.p_System_is_impossible A.f_System_is_impossible
  F_System_is_impossible : Fun K "is_impossible" "System.is_impossible" s_System_is_impossible A.f_System_is_impossible A.d_System_is_impossible
  B_System_is_impossible : Binds K A.d_System_is_impossible ["self"] []
  me_System_reduced : Meth K A.C_System "reduced" A.f_System_reduced
  F_System_reduced : Fun K "reduced" "System.reduced" s_System_reduced A.f_System_reduced A.d_System_reduced
  B_System_reduced : Binds K A.d_System_reduced ["self"] []
  g_closed : mg "closed" = some (.ref A.f_closed)
  F_closed : Fun K "closed" "closed" s_closed A.f_closed A.d_closed
  B_closed : Binds K A.d_closed ["system"] []
  g_made_by : mg "made_by" = some (.ref A.f_made_by)
  F_made_by : Fun K "made_by" "made_by" s_made_by A.f_made_by A.d_made_by
  B_made_by : Binds K A.d_made_by ["system", "step"] []
  g_check_left : mg "check_left" = some (.ref A.f_check_left)
  F_check_left : Fun K "check_left" "check_left" s_check_left A.f_check_left A.d_check_left
  B_check_left : Binds K A.d_check_left ["systems"] []
  g_check_numbers : mg "check_numbers" = some (.ref A.f_check_numbers)
  F_check_numbers : Fun K "check_numbers" "check_numbers" s_check_numbers A.f_check_numbers A.d_check_numbers
  B_check_numbers : Binds K A.d_check_numbers ["systems"] []
  g_left_behind : mg "left_behind" = some (.ref A.f_left_behind)
  F_left_behind : Fun K "left_behind" "left_behind" s_left_behind A.f_left_behind A.d_left_behind
  B_left_behind : Binds K A.d_left_behind ["left", "steps", "make"] []
  g_remaining : mg "remaining" = some (.ref A.f_remaining)
  F_remaining : Fun K "remaining" "remaining" s_remaining A.f_remaining A.d_remaining
  B_remaining : Binds K A.d_remaining ["system", "steps"] []
  g_refutes : mg "refutes" = some (.ref A.f_refutes)
  F_refutes : Fun K "refutes" "refutes" s_refutes A.f_refutes A.d_refutes
  B_refutes : Binds K A.d_refutes ["system", "steps"] []
  g_lifted : mg "lifted" = some (.ref A.f_lifted)
  F_lifted : Fun K "lifted" "lifted" s_lifted A.f_lifted A.d_lifted
  B_lifted : Binds K A.d_lifted ["point", "trail"] []
  me_Budget___init__ : Meth K A.C_Budget "__init__" A.f_Budget___init__
  F_Budget___init__ : Fun K "__init__" "Budget.__init__" s_Budget___init__ A.f_Budget___init__ A.d_Budget___init__
  B_Budget___init__ : Binds K A.d_Budget___init__ ["self", "effort"] []
  me_Budget_spend : Meth K A.C_Budget "spend" A.f_Budget_spend
  F_Budget_spend : Fun K "spend" "Budget.spend" s_Budget_spend A.f_Budget_spend A.d_Budget_spend
  B_Budget_spend : Binds K A.d_Budget_spend ["self"] []
  me_Examination___init__ : Meth K A.C_Examination "__init__" A.f_Examination___init__
  F_Examination___init__ : Fun K "__init__" "Examination.__init__" s_Examination___init__ A.f_Examination___init__ A.d_Examination___init__
  B_Examination___init__ : Binds K A.d_Examination___init__ ["self", "system"] []
  me_Examination_take : Meth K A.C_Examination "take" A.f_Examination_take
  F_Examination_take : Fun K "take" "Examination.take" s_Examination_take A.f_Examination_take A.d_Examination_take
  B_Examination_take : Binds K A.d_Examination_take ["self", "steps"] []
  me_Examination_look : Meth K A.C_Examination "look" A.f_Examination_look
  F_Examination_look : Fun K "look" "Examination.look" s_Examination_look A.f_Examination_look A.d_Examination_look
  B_Examination_look : Binds K A.d_Examination_look ["self"] []
  g_examined : mg "examined" = some (.ref A.f_examined)
  F_examined : Fun K "examined" "examined" s_examined A.f_examined A.d_examined
  B_examined : Binds K A.d_examined ["system", "budget"] []
  g_examine : mg "examine" = some (.ref A.f_examine)
  F_examine : Fun K "examine" "examine" s_examine A.f_examine A.d_examine
  g_law_cell : mg "_law_cell" = some (.ref A.f_law_cell)
  F_law_cell : Fun K "_law_cell" "_law_cell" s_law_cell A.f_law_cell A.d_law_cell
  B_law_cell : Binds K A.d_law_cell ["script", "k"] []
  g_law_draws : mg "_law_draws" = some (.ref A.f_law_draws)
  F_law_draws : Fun K "_law_draws" "_law_draws" s_law_draws A.f_law_draws A.d_law_draws
  B_law_draws : Binds K A.d_law_draws ["cell", "count"] []
  g_law_value : mg "_law_value" = some (.ref A.f_law_value)
  F_law_value : Fun K "_law_value" "_law_value" s_law_value A.f_law_value A.d_law_value
  B_law_value : Binds K A.d_law_value ["expression", "point"] []
  g_law_holds : mg "_law_holds" = some (.ref A.f_law_holds)
  F_law_holds : Fun K "_law_holds" "_law_holds" s_law_holds A.f_law_holds A.d_law_holds
  B_law_holds : Binds K A.d_law_holds ["constraint", "point"] []
  g_law_all_hold : mg "_law_all_hold" = some (.ref A.f_law_all_hold)
  F_law_all_hold : Fun K "_law_all_hold" "_law_all_hold" s_law_all_hold A.f_law_all_hold A.d_law_all_hold
  B_law_all_hold : Binds K A.d_law_all_hold ["rows", "point"] []
  g_law_point : mg "_law_point" = some (.ref A.f_law_point)
  F_law_point : Fun K "_law_point" "_law_point" s_law_point A.f_law_point A.d_law_point
  B_law_point : Binds K A.d_law_point ["cell", "variables"] []
  g_law_constraint : mg "_law_constraint" = some (.ref A.f_law_constraint)
  F_law_constraint : Fun K "_law_constraint" "_law_constraint" s_law_constraint A.f_law_constraint A.d_law_constraint
  B_law_constraint : Binds K A.d_law_constraint ["cell", "point"] []
  g_law_rows : mg "_law_rows" = some (.ref A.f_law_rows)
  F_law_rows : Fun K "_law_rows" "_law_rows" s_law_rows A.f_law_rows A.d_law_rows
  B_law_rows : Binds K A.d_law_rows ["script", "start", "count", "point"] []
  g_law_impossible : mg "_law_impossible" = some (.ref A.f_law_impossible)
  F_law_impossible : Fun K "_law_impossible" "_law_impossible" s_law_impossible A.f_law_impossible A.d_law_impossible
  B_law_impossible : Binds K A.d_law_impossible ["cell", "variables"] []
  g_law_refuted : mg "_law_refuted" = some (.ref A.f_law_refuted)
  F_law_refuted : Fun K "_law_refuted" "_law_refuted" s_law_refuted A.f_law_refuted A.d_law_refuted
  B_law_refuted : Binds K A.d_law_refuted ["system", "found"] []
  g_law : mg "law" = some (.ref A.f_law)
  F_law : Fun K "law" "law" s_law A.f_law A.d_law
  B_law : Binds K A.d_law ["script"] []
  gC_System : mg "System" = some (.ref A.C_System)
  cl_System : Cls K A.C_System
  mk_System : Mk K A.C_System A.f_System___init__
  na_System_variables : NoAttr K A.C_System "variables"
  na_System_rows : NoAttr K A.C_System "rows"
  is_System : C8.InsC K A.C_System
  gC_Budget : mg "Budget" = some (.ref A.C_Budget)
  cl_Budget : Cls K A.C_Budget
  mk_Budget : Mk K A.C_Budget A.f_Budget___init__
  na_Budget_looks : NoAttr K A.C_Budget "looks"
  gC_Examination : mg "Examination" = some (.ref A.C_Examination)
  cl_Examination : Cls K A.C_Examination
  mk_Examination : Mk K A.C_Examination A.f_Examination___init__
  na_Examination_left : NoAttr K A.C_Examination "left"
  na_Examination_trails : NoAttr K A.C_Examination "trails"
  na_Examination_steps : NoAttr K A.C_Examination "steps"
  g_MOST_EFFORT : mg "MOST_EFFORT" = some (.int 2000 A.t_MOST_EFFORT)
  g_MOST_WEIGHT : mg "MOST_WEIGHT" = some (.int 4000 A.t_MOST_WEIGHT)
  g_MOST_VARIABLES : mg "MOST_VARIABLES" = some (.int 40 A.t_MOST_VARIABLES)
  g_GREATEST : mg "GREATEST" = some (.int 1000000000000000000 A.t_GREATEST)
/-! ### constraints -/
inductive Kd where
  | ge | eq | div (m : Int)
deriving DecidableEq
structure Ct where
  k : Kd
  c : List Int
  d : Int
deriving DecidableEq
def dot : List Int → List Int → Int
  | c :: cs, p :: ps => c * p + dot cs ps
  | _, _ => 0
def Kd.holds : Kd → Int → Bool
  | .ge, v => decide (0 ≤ v)
  | .eq, v => decide (v = 0)
  | .div m, v => decide (v % m = 0)
def Ct.at_ (t : Ct) (p : List Int) : Bool := t.k.holds (dot t.c p + t.d)
def Kd.ok : Kd → Prop
  | .div m => 1 ≤ m
  | _ => True
/-- the greatest common divisor of a number and more of them -/
def gl (g : Nat) : List Int → Nat
  | [] => g
  | x :: r => gl (Nat.gcd g x.natAbs) r
theorem gl_dvd : ∀ (l : List Int) (g : Nat), gl g l ∣ g ∧ ∀ x ∈ l, (gl g l : Int) ∣ x
  | [], g => ⟨Nat.dvd_refl g, fun _ h => by cases h⟩
  | y :: r, g => by
    obtain ⟨h1, h2⟩ := gl_dvd r (Nat.gcd g y.natAbs)
    refine ⟨Nat.dvd_trans h1 (Nat.gcd_dvd_left _ _), fun x hx => ?_⟩
    rcases List.mem_cons.mp hx with rfl | hx
    · exact Int.ofNat_dvd_left.mpr (Nat.dvd_trans h1 (Nat.gcd_dvd_right _ _))
    · exact h2 x hx
theorem gl_great : ∀ (l : List Int) (g k : Nat), k ∣ g → (∀ x ∈ l, (k : Int) ∣ x) → k ∣ gl g l
  | [], _, _, h, _ => h
  | y :: r, g, k, h, hx => gl_great r _ k (Nat.dvd_gcd h (Int.ofNat_dvd_left.mp (hx y (List.mem_cons_self ..)))) (fun x h' => hx x (List.mem_cons_of_mem _ h'))
theorem gl_zero {l : List Int} {g : Nat} (h : gl g l = 0) : g = 0 ∧ ∀ x ∈ l, x = 0 := by
  obtain ⟨h1, h2⟩ := gl_dvd l g
  rw [h] at h1 h2
  exact ⟨Nat.eq_zero_of_zero_dvd h1, fun x hx => Int.zero_dvd.mp (h2 x hx)⟩
theorem gl_le {l : List Int} {g b : Nat} (hb : ∀ x ∈ l, x.natAbs ≤ b) (hg : g ≤ b) : gl g l ≤ b := by
  by_cases h0 : g = 0
  · subst h0
    clear hg
    induction l with
    | nil => exact Nat.zero_le _
    | cons y r ih =>
      rw [gl, Nat.gcd_zero_left]
      by_cases hy : y.natAbs = 0
      · rw [hy]; exact ih fun x hx => hb x (List.mem_cons_of_mem _ hx)
      · exact Nat.le_trans (Nat.le_of_dvd (by omega) (gl_dvd r _).1) (hb y (List.mem_cons_self ..))
  · exact Nat.le_trans (Nat.le_of_dvd (by omega) (gl_dvd l g).1) hg
/-- the greatest common divisor of divided numbers is 1 -/
theorem gl_div {l : List Int} {g : Nat} (hp : 0 < gl g l) : gl (g / gl g l) (l.map (· / (gl g l : Int))) = 1 := by
  obtain ⟨h1, h2⟩ := gl_dvd l g
  generalize hG : gl g l = G at *
  obtain ⟨i1, i2⟩ := gl_dvd (l.map (· / (G : Int))) (g / G)
  generalize hK : gl (g / G) (l.map (· / (G : Int))) = k at *
  have d1 : G * k ∣ g := by
    obtain ⟨a, e⟩ := i1
    refine ⟨a, ?_⟩
    rw [Nat.mul_assoc, ← e, Nat.mul_div_cancel' h1]
  have d2 : ∀ x ∈ l, ((G * k : Nat) : Int) ∣ x := fun x hx => by
    obtain ⟨a, e⟩ := i2 _ (List.mem_map.mpr ⟨x, hx, rfl⟩)
    refine ⟨a, ?_⟩
    rw [Int.natCast_mul, Int.mul_assoc, ← e, Int.mul_ediv_cancel' (h2 x hx)]
  have d3 := gl_great l g (G * k) d1 d2
  rw [hG] at d3
  have d4 : G * k ≤ G * 1 := by rw [Nat.mul_one]; exact Nat.le_of_dvd hp d3
  have d5 := Nat.le_of_mul_le_mul_left d4 hp
  have d6 : k ≠ 0 := fun z => by
    rw [z, Nat.mul_zero] at d3
    have := Nat.eq_zero_of_zero_dvd d3
    omega
  omega
theorem dot_map (g : Int) : ∀ (c p : List Int), (∀ x ∈ c, g ∣ x) → dot c p = g * dot (c.map (· / g)) p
  | [], _, _ => (Int.mul_zero g).symm
  | _ :: _, [], _ => (Int.mul_zero g).symm
  | x :: c, y :: p, h => by
    rw [List.map_cons, dot, dot, dot_map g c p fun z hz => h z (List.mem_cons_of_mem _ hz), Int.mul_add, ← Int.mul_assoc, Int.mul_ediv_cancel' (h x (List.mem_cons_self ..))]
theorem dot_zero : ∀ (c p : List Int), (∀ x ∈ c, x = 0) → dot c p = 0
  | [], _, _ => rfl
  | _ :: _, [], _ => rfl
  | x :: c, y :: p, h => by
    rw [dot, h x (List.mem_cons_self ..), dot_zero c p fun z hz => h z (List.mem_cons_of_mem _ hz), Int.zero_mul, Int.zero_add]
theorem dot_neg : ∀ (c p : List Int), dot (c.map (- ·)) p = - dot c p
  | [], _ => rfl
  | _ :: _, [] => rfl
  | x :: c, y :: p => by
    rw [List.map_cons, dot, dot, dot_neg c p, Int.neg_add, Int.neg_mul]
theorem dot_mod (m : Int) : ∀ (c p : List Int), (dot (c.map (· % m)) p) % m = (dot c p) % m
  | [], _ => rfl
  | _ :: _, [] => rfl
  | x :: c, y :: p => by
    rw [List.map_cons, dot, dot, Int.add_emod, dot_mod m c p, ← Int.add_emod, Int.add_emod, Int.mul_emod, Int.emod_emod_of_dvd x (Int.dvd_refl m), ← Int.mul_emod, ← Int.add_emod]
def imp (n : Nat) : Ct := ⟨.ge, List.replicate n 0, -1⟩
def red (t : Ct) : Option Ct :=
  match t.k with
  | .ge => let g := gl 0 t.c
    if 0 < g then some ⟨.ge, t.c.map (· / (g : Int)), t.d / (g : Int)⟩ else if 0 ≤ t.d then none else some (imp t.c.length)
  | .eq => let g := gl 0 t.c
    if g = 0 ∧ t.d = 0 then none else if g = 0 ∨ t.d % (g : Int) ≠ 0 then some (imp t.c.length) else
    let ns := t.c.map (· / (g : Int))
    if 0 < ((ns.filter (· ≠ 0)).headD 0) then some ⟨.eq, ns, t.d / (g : Int)⟩ else some ⟨.eq, ns.map (- ·), -(t.d / (g : Int))⟩
  | .div m => let ns := t.c.map (· % m)
    let h := gl m.toNat ns
    if (t.d % m) % (h : Int) ≠ 0 then some (imp t.c.length) else
    if h = m.toNat then none else some ⟨.div (m / (h : Int)), ns.map (· / (h : Int)), (t.d % m) / (h : Int)⟩
theorem imp_at (n : Nat) (p : List Int) : (imp n).at_ p = false := by
  rw [Ct.at_, imp, dot_zero _ _ (fun x hx => List.eq_of_mem_replicate hx)]
  rfl
def rAt (o : Option Ct) (p : List Int) : Bool := match o with | none => true | some t => t.at_ p
theorem div_mul (m : Int) (g : Nat) (_ : 0 < g) (hd : (g : Int) ∣ m) (v : Int) : decide (((g : Int) * v) % m = 0) = decide (v % (m / (g : Int)) = 0) := by
  refine decide_eq_decide.mpr ?_
  obtain ⟨k, rfl⟩ := hd
  have hg : (g : Int) ≠ 0 := by omega
  rw [Int.mul_ediv_cancel_left k hg]
  constructor
  · intro h
    obtain ⟨a, e⟩ := Int.dvd_of_emod_eq_zero h
    rw [Int.mul_assoc] at e
    exact Int.emod_eq_zero_of_dvd ⟨a, Int.eq_of_mul_eq_mul_left hg e⟩
  · intro h
    obtain ⟨a, rfl⟩ := Int.dvd_of_emod_eq_zero h
    exact Int.emod_eq_zero_of_dvd ⟨a, (Int.mul_assoc ..).symm⟩
theorem gl_toNat_dvd {m : Int} (hm : 1 ≤ m) (l : List Int) : ((gl m.toNat l : Nat) : Int) ∣ m := by
  have h : ((gl m.toNat l : Nat) : Int) ∣ (m.toNat : Int) := Int.natCast_dvd_natCast.mpr (gl_dvd l m.toNat).1
  rw [Int.toNat_of_nonneg (by omega)] at h
  exact h
theorem gl_pos {m : Int} (hm : 1 ≤ m) (l : List Int) : 0 < gl m.toNat l := by
  rcases Nat.eq_zero_or_pos (gl m.toNat l) with h | h
  · have := (gl_zero h).1
    omega
  · exact h
theorem red_at (t : Ct) (ok : t.k.ok) (p : List Int) : rAt (red t) p = t.at_ p := by
  obtain ⟨k, c, d⟩ := t
  cases k with
  | ge =>
    simp only [red]
    by_cases hg : 0 < gl 0 c
    · rw [if_pos hg]
      simp only [rAt, Ct.at_, Kd.holds]
      have hd := (gl_dvd c 0).2
      generalize gl 0 c = g at *
      rw [dot_map (g : Int) c p hd]
      refine decide_eq_decide.mpr ?_
      generalize dot (c.map (· / (g : Int))) p = v
      have e1 := Int.mul_ediv_add_emod d (g : Int)
      have e2 := Int.emod_nonneg d (show (g : Int) ≠ 0 by omega)
      have e3 := Int.emod_lt_of_pos d (show (0 : Int) < (g : Int) by omega)
      generalize d / (g : Int) = q at *
      generalize d % (g : Int) = r at *
      subst e1
      constructor
      · intro h
        have := Int.mul_nonneg (show (0 : Int) ≤ g by omega) h
        rw [Int.mul_add] at this
        omega
      · intro h
        rcases Int.lt_or_le (v + q) 0 with hlt | hle
        · have h1 : (g : Int) * (v + q) ≤ (g : Int) * (-1) := Int.mul_le_mul_of_nonneg_left (by omega) (by omega)
          rw [Int.mul_add] at h1
          omega
        · exact hle
    · rw [if_neg hg]
      have hz := (gl_zero (Nat.le_zero.mp (Nat.not_lt.mp hg))).2
      by_cases h0 : 0 ≤ d
      · rw [if_pos h0]
        simp only [rAt, Ct.at_, Kd.holds, dot_zero c p hz]
        exact (decide_eq_true (by omega)).symm
      · rw [if_neg h0]
        simp only [rAt, imp_at]
        simp only [Ct.at_, Kd.holds, dot_zero c p hz]
        exact (decide_eq_false (by omega)).symm
  | eq =>
    simp only [red]
    by_cases h1 : gl 0 c = 0 ∧ d = 0
    · rw [if_pos h1]
      have hz := (gl_zero h1.1).2
      simp only [rAt, Ct.at_, Kd.holds, dot_zero c p hz]
      exact (decide_eq_true (by omega)).symm
    · rw [if_neg h1]
      by_cases h2 : gl 0 c = 0 ∨ d % (gl 0 c : Int) ≠ 0
      · rw [if_pos h2]
        simp only [rAt, imp_at]
        simp only [Ct.at_, Kd.holds]
        symm
        refine decide_eq_false fun hv => ?_
        by_cases hg : gl 0 c = 0
        · have hz := (gl_zero hg).2
          rw [dot_zero c p hz] at hv
          exact h1 ⟨hg, by omega⟩
        · rcases h2 with h2 | h2
          · exact hg h2
          · have hd := (gl_dvd c 0).2
            rw [dot_map _ c p hd] at hv
            refine h2 (Int.emod_eq_zero_of_dvd ⟨-dot (c.map (· / (gl 0 c : Int))) p, ?_⟩)
            rw [Int.mul_neg]
            omega
      · rw [if_neg h2]
        have hg : gl 0 c ≠ 0 := fun z => h2 (.inl z)
        have hr : d % (gl 0 c : Int) = 0 := Classical.byContradiction fun z => h2 (.inr z)
        have hd := (gl_dvd c 0).2
        have main : decide (dot c p + d = 0) = decide (dot (c.map (· / (gl 0 c : Int))) p + d / (gl 0 c : Int) = 0) := by
          refine decide_eq_decide.mpr ?_
          have ed := Int.mul_ediv_cancel' (Int.dvd_of_emod_eq_zero hr)
          rw [dot_map _ c p hd]
          generalize dot (c.map (· / (gl 0 c : Int))) p = v
          generalize d / (gl 0 c : Int) = q at *
          rw [← ed, ← Int.mul_add]
          constructor
          · intro h
            rcases Int.mul_eq_zero.mp h with h | h
            · omega
            · exact h
          · intro h
            rw [h, Int.mul_zero]
        split
        · simp only [rAt, Ct.at_, Kd.holds]
          exact main.symm
        · simp only [rAt, Ct.at_, Kd.holds, dot_neg]
          rw [main]
          exact decide_eq_decide.mpr (by omega)
  | div m =>
    have hm : 1 ≤ m := ok
    simp only [red]
    have hD := gl_toNat_dvd hm (c.map (· % m))
    have hP := gl_pos hm (c.map (· % m))
    have hA := (gl_dvd (c.map (· % m)) m.toNat).2
    have base : decide ((dot c p + d) % m = 0) = decide ((dot (c.map (· % m)) p + d % m) % m = 0) := by
      rw [Int.add_emod (dot c p) d, Int.add_emod (dot (c.map (· % m)) p) (d % m), dot_mod, Int.emod_emod_of_dvd d (Int.dvd_refl m)]
    generalize gl m.toNat (c.map (· % m)) = h at *
    rw [dot_map (h : Int) _ p hA] at base
    generalize hv : dot (List.map (· / (h : Int)) (c.map (· % m))) p = v at base
    by_cases h1 : (d % m) % (h : Int) ≠ 0
    · rw [if_pos h1]
      simp only [rAt, imp_at]
      simp only [Ct.at_, Kd.holds]
      rw [base]
      symm
      refine decide_eq_false fun e => h1 ?_
      have e2 := Int.dvd_trans hD (Int.dvd_of_emod_eq_zero e)
      exact Int.emod_eq_zero_of_dvd ((Int.dvd_iff_dvd_of_dvd_add e2).mp ⟨v, rfl⟩)
    · rw [if_neg h1]
      have hr : (d % m) % (h : Int) = 0 := Classical.byContradiction h1
      have ed := Int.mul_ediv_cancel' (Int.dvd_of_emod_eq_zero hr)
      rw [← ed, ← Int.mul_add, div_mul m h hP hD] at base
      by_cases h2 : h = m.toNat
      · rw [if_pos h2]
        simp only [rAt, Ct.at_, Kd.holds]
        rw [base]
        have e1 : m / (h : Int) = 1 := by
          rw [h2, Int.toNat_of_nonneg (by omega)]
          exact Int.ediv_self (by omega)
        rw [e1]
        exact (decide_eq_true (Int.emod_one _)).symm
      · rw [if_neg h2]
        simp only [rAt, Ct.at_, Kd.holds]
        rw [base, hv]
theorem red_ok {t u : Ct} (ok : t.k.ok) (h : red t = some u) : u.k.ok ∧ u.c.length = t.c.length := by
  obtain ⟨k, c, d⟩ := t
  cases k with
  | ge =>
    simp only [red] at h
    split at h
    · cases h; exact ⟨trivial, List.length_map ..⟩
    · split at h
      · cases h
      · cases h; exact ⟨trivial, List.length_replicate ..⟩
  | eq =>
    simp only [red] at h
    split at h
    · cases h
    · split at h
      · cases h; exact ⟨trivial, List.length_replicate ..⟩
      · split at h
        · cases h; exact ⟨trivial, List.length_map ..⟩
        · cases h; exact ⟨trivial, by rw [List.length_map, List.length_map]⟩
  | div m =>
    have hm : 1 ≤ m := ok
    simp only [red] at h
    have hD := gl_toNat_dvd hm (c.map (· % m))
    have hP := gl_pos hm (c.map (· % m))
    generalize gl m.toNat (c.map (· % m)) = g at *
    split at h
    · cases h; exact ⟨trivial, List.length_replicate ..⟩
    · split at h
      · cases h
      · cases h
        refine ⟨?_, by rw [List.length_map, List.length_map]⟩
        show 1 ≤ m / (g : Int)
        obtain ⟨k, rfl⟩ := hD
        rw [Int.mul_ediv_cancel_left k (by omega)]
        rcases Int.lt_or_le k 1 with hk | hk
        · have : (g : Int) * k ≤ (g : Int) * 0 := Int.mul_le_mul_of_nonneg_left (by omega) (by omega)
          omega
        · exact hk
theorem gl_rep (n : Nat) : gl 0 (List.replicate n 0) = 0 := by
  induction n with
  | zero => rfl
  | succ n ih => rw [List.replicate_succ, gl]; exact ih
theorem red_imp (n : Nat) : red (imp n) = some (imp n) := by
  unfold imp
  simp only [red]
  rw [gl_rep]
  rw [if_neg (by decide), if_neg (by decide)]
  unfold imp
  rw [List.length_replicate]
theorem map_div1 (l : List Int) : l.map (· / ((1 : Nat) : Int)) = l := by
  induction l with
  | nil => rfl
  | cons x r ih => rw [List.map_cons, ih, show x / ((1 : Nat) : Int) = x from Int.ediv_one x]
theorem gl_neg : ∀ (l : List Int) (g : Nat), gl g (l.map (- ·)) = gl g l
  | [], _ => rfl
  | x :: r, g => by rw [List.map_cons, gl, gl, Int.natAbs_neg, gl_neg r]
theorem filter_neg : ∀ (l : List Int), ((l.map (- ·)).filter (· ≠ 0)).headD 0 = - ((l.filter (· ≠ 0)).headD 0)
  | [] => rfl
  | x :: r => by
    rw [List.map_cons, List.filter_cons, List.filter_cons]
    by_cases hx : x = 0
    · subst hx
      exact filter_neg r
    · rw [if_pos (decide_eq_true (show - x ≠ 0 by omega)), if_pos (decide_eq_true hx)]
      rfl
theorem filter_head : ∀ (l : List Int), (∃ x ∈ l, x ≠ 0) → (l.filter (· ≠ 0)).headD 0 ≠ 0
  | [], h => by obtain ⟨_, h, _⟩ := h; cases h
  | y :: r, h => by
    rw [List.filter_cons]
    by_cases hy : y = 0
    · subst hy
      obtain ⟨x, hx, n⟩ := h
      rcases List.mem_cons.mp hx with rfl | hx
      · exact absurd rfl n
      · exact filter_head r ⟨x, hx, n⟩
    · rw [if_pos (decide_eq_true hy)]
      exact hy
theorem gl_one_ne {l : List Int} (h : gl 0 l = 1) : ∃ x ∈ l, x ≠ 0 := by
  refine Classical.byContradiction fun z => ?_
  have : ∀ x ∈ l, x = 0 := fun x hx => Classical.byContradiction fun n => z ⟨x, hx, n⟩
  have h0 : (0 : Nat) ∣ gl 0 l := gl_great l 0 0 (Nat.dvd_refl 0) fun x hx => by rw [this x hx]; exact Int.dvd_refl 0
  rw [h] at h0
  have := Nat.eq_zero_of_zero_dvd h0
  omega
theorem red_idem {t u : Ct} (ok : t.k.ok) (h : red t = some u) : red u = some u := by
  obtain ⟨k, c, d⟩ := t
  cases k with
  | ge =>
    simp only [red] at h
    split at h
    · rename_i hg
      cases h
      have e := gl_div hg
      rw [Nat.zero_div] at e
      simp only [red]
      rw [e, if_pos (by decide), map_div1, show ∀ x : Int, x / ((1 : Nat) : Int) = x from Int.ediv_one]
    · split at h
      · cases h
      · cases h; exact red_imp _
  | eq =>
    simp only [red] at h
    split at h
    · cases h
    · split at h
      · cases h; exact red_imp _
      · rename_i h2
        have hg : 0 < gl 0 c := Nat.pos_of_ne_zero fun z => h2 (.inl z)
        have e := gl_div hg
        rw [Nat.zero_div] at e
        have d1 : ∀ x : Int, x / ((1 : Nat) : Int) = x := Int.ediv_one
        have m1 : ∀ x : Int, x % ((1 : Nat) : Int) = 0 := Int.emod_one
        split at h
        · rename_i hp
          cases h
          simp only [red]
          rw [e, if_neg (by omega), if_neg (by rw [m1]; rintro (z | z); exact absurd z (by decide); exact z rfl), map_div1, d1, if_pos hp]
        · rename_i hp
          cases h
          simp only [red]
          rw [gl_neg, e, if_neg (by omega), if_neg (by rw [m1]; rintro (z | z); exact absurd z (by decide); exact z rfl), map_div1, d1, filter_neg, if_pos ?_]
          have := filter_head _ (gl_one_ne e)
          omega
  | div m =>
    have hm : 1 ≤ m := ok
    simp only [red] at h
    have hD := gl_toNat_dvd hm (c.map (· % m))
    have hP := gl_pos hm (c.map (· % m))
    have hA := (gl_dvd (c.map (· % m)) m.toNat).2
    have e := gl_div hP
    split at h
    · cases h; exact red_imp _
    · rename_i h1
      have hr : (d % m) % ((gl m.toNat (c.map (· % m)) : Nat) : Int) = 0 := Classical.byContradiction h1
      split at h
      · cases h
      · rename_i h2
        cases h
        generalize hG : gl m.toNat (c.map (· % m)) = g at *
        have hgp : (0 : Int) < (g : Int) := by omega
        have key : ∀ x : Int, 0 ≤ x → x < m → (g : Int) ∣ x → x / (g : Int) % (m / (g : Int)) = x / (g : Int) := fun x x0 xm xd => by
          refine Int.emod_eq_of_lt (Int.ediv_nonneg x0 (by omega)) ?_
          obtain ⟨a, rfl⟩ := xd
          obtain ⟨b, rfl⟩ := hD
          rw [Int.mul_ediv_cancel_left a (by omega), Int.mul_ediv_cancel_left b (by omega)]
          exact Int.lt_of_mul_lt_mul_left xm (by omega)
        have mm : ∀ x : Int, 0 ≤ x % m ∧ x % m < m := fun x => ⟨Int.emod_nonneg _ (by omega), Int.emod_lt_of_pos _ (by omega)⟩
        have e1 : ((c.map (· % m)).map (· / (g : Int))).map (· % (m / (g : Int))) = (c.map (· % m)).map (· / (g : Int)) := by
          rw [List.map_map]
          refine List.map_congr_left fun x hx => ?_
          obtain ⟨y, _, rfl⟩ := List.mem_map.mp hx
          exact key _ (mm y).1 (mm y).2 (hA _ hx)
        have e2 := key _ (mm d).1 (mm d).2 (Int.dvd_of_emod_eq_zero hr)
        have e3 : (m / (g : Int)).toNat = m.toNat / g := by
          have : m = ((m.toNat : Nat) : Int) := (Int.toNat_of_nonneg (by omega)).symm
          rw [this, Int.toNat_natCast, ← Int.natCast_ediv, Int.toNat_natCast]
        simp only [red]
        rw [e1, e2, e3, e, if_neg (by rw [show ∀ x : Int, x % ((1 : Nat) : Int) = 0 from Int.emod_one]; exact fun z => z rfl), map_div1, if_neg ?_, show ∀ x : Int, x / ((1 : Nat) : Int) = x from Int.ediv_one, show ∀ x : Int, x / ((1 : Nat) : Int) = x from Int.ediv_one]
        intro z
        refine h2 ?_
        have hd : g ∣ m.toNat := by
          rw [← hG]
          exact (gl_dvd _ _).1
        have := Nat.div_mul_cancel hd
        rw [← z, Nat.one_mul] at this
        exact this
theorem gl_snoc (x : Int) : ∀ (l : List Int) (g : Nat), gl g (l ++ [x]) = Nat.gcd (gl g l) x.natAbs
  | [], _ => rfl
  | y :: r, g => by rw [List.cons_append, gl, gl, gl_snoc x r]
theorem imp_cs (n : Nat) : ∀ x ∈ (imp n).c, x = 0 := fun x hx => List.eq_of_mem_replicate hx
/-! ### constraints in memory -/
def Kd.v : Kd → Addr → List V
  | .ge, a => [.str "ge", .ref a]
  | .eq, a => [.str "eq", .ref a]
  | .div m, a => [.str "div", .int m, .ref a]
def Ct.e (t : Ct) : List Int := t.c ++ [t.d]
def CtT (K : PySem.W.Frag) (H : Hp) (x : Addr) (t : Ct) : Prop := ∃ a, SqT K H x (t.k.v a) ∧ SqT K H a (t.e.map V.int)
theorem CtT.same {K : PySem.W.Frag} {H H' : Hp} {x : Addr} {t : Ct} (h : CtT K H x t) (s : Same H H') : CtT K H' x t := let ⟨a, h1, h2⟩ := h; ⟨a, sameT s h1, sameT s h2⟩
theorem kv_last {k : Kd} {a : Addr} : atI (k.v a) (-1) = some (V.ref a) := by cases k <;> rfl
theorem e_last {t : Ct} : atI (t.e.map V.int) (-1) = some (V.int t.d) := atI_lastI
def ROp (K : PySem.W.Frag) (H : Hp) (v : V) (r : Option Ct) : Prop := match r with | none => v = .non | some u => ∃ x, v = .ref x ∧ CtT K H x u
/-- numbers that are not too great for // -/
def Nz (t : Ct) : Prop := t.c.length ≤ 90 ∧ (∀ x ∈ t.e, Sz 8000 x) ∧ match t.k with | .div m => Sz 8000 m | _ => True
theorem sz_gl {l : List Int} {g : Nat} {b : Nat} (hl : ∀ x ∈ l, Sz b x) (hg : Sz b (g : Int)) : Sz b ((gl g l : Nat) : Int) := by
  unfold Sz at *
  rw [Int.natAbs_natCast] at *
  have hp : 0 < 2 ^ b := Nat.pow_pos (by decide)
  have := gl_le (l := l) (g := g) (b := 2 ^ b - 1) (fun x hx => by have := hl x hx; omega) (by omega)
  omega
theorem sz_div {b : Nat} {x g : Int} (h : Sz b x) (hg : 0 < g) : Sz b (x / g) := by
  unfold Sz at *
  refine Nat.lt_of_le_of_lt (Int.natAbs_ediv_le_natAbs x g) h
theorem sz_mod {b : Nat} {x m : Int} (hm : 1 ≤ m) (h : Sz b m) : Sz b (x % m) := by
  unfold Sz at *
  have h1 := Int.emod_nonneg x (show m ≠ 0 by omega)
  have h2 := Int.emod_lt_of_pos x (show 0 < m by omega)
  omega
theorem cdivw {i g : Int} {b : Nat} (hg : 0 < g) (h : Sz b g) (h0 : 0 < b) (hb : b ≤ 9000) : CDivW i g := wide_div hg h h0 hb
theorem flt_ne (l : List Int) : l.filter (fun x => decide (x ≠ 0)) = l.filter (· ≠ 0) := rfl
theorem Nz.c {t : Ct} (h : Nz t) : ∀ x ∈ t.c, Sz 8000 x := fun x hx => h.2.1 x (List.mem_append_left _ hx)
theorem Nz.d {t : Ct} (h : Nz t) : Sz 8000 t.d := h.2.1 _ (List.mem_append_right _ (List.mem_singleton.mpr rfl))
theorem Nz.len {t : Ct} (h : Nz t) : t.e.length ≤ 91 := by
  show (t.c ++ [t.d]).length ≤ 91
  rw [List.length_append, List.length_singleton]
  have := h.1
  omega
theorem e_len (t : Ct) : (t.e.map V.int).length = t.c.length + 1 := by
  rw [List.length_map, Ct.e, List.length_append, List.length_singleton]
/-- a new constraint -/
theorem ct_new {K : PySem.W.Frag} {H0 H : Hp} {p a : Addr} {k : Kd} {t : Ct} (s : Same H0 H) (np : H p = none) (ha : SqT K H a (t.e.map V.int)) (hk : t.k = k) : Same H0 (upd H p (.tup (k.v a))) ∧ CtT K (upd H p (.tup (k.v a))) p t :=
  ⟨s.trans (same_upd np), a, by rw [hk]; exact SqT.of upd_same, sameT (same_upd np) ha⟩
theorem e_map (f : Int → Int) (t : Ct) (k : Kd) : t.e.map f = (Ct.mk k (t.c.map f) (f t.d)).e := by
  rw [Ct.e, List.map_append]
  rfl
theorem sz_one (a : Nat) (h : 1 ≤ a) : Sz a (-1) := by
  unfold Sz
  exact Nat.one_lt_two_pow (by omega)
theorem sz_neg {a : Nat} {x : Int} (h : Sz a x) : Sz a (-x) := by
  unfold Sz at *
  rw [Int.natAbs_neg]
  exact h
theorem red_all {b : Nat} (hb : 1 ≤ b) {t u : Ct} (ok : t.k.ok) (h : red t = some u) (hc : ∀ x ∈ t.c, Sz b x) (hd : Sz b t.d) (hm : match t.k with | .div m => Sz b m | _ => True) :
    (∀ x ∈ u.c, Sz b x) ∧ Sz b u.d ∧ match u.k with | .div m => Sz b m | _ => True := by
  obtain ⟨k, c, d⟩ := t
  have hi : (∀ x ∈ (imp c.length).c, Sz b x) ∧ Sz b (imp c.length).d ∧ match (imp c.length).k with | .div m => Sz b m | _ => True := ⟨fun x hx => by rw [imp_cs _ x hx]; exact Sz.zero _, sz_one b hb, trivial⟩
  cases k with
  | ge =>
    simp only [red] at h
    split at h
    · cases h
      refine ⟨fun x hx => ?_, sz_div hd (by omega), trivial⟩
      obtain ⟨y, hy, rfl⟩ := List.mem_map.mp hx
      exact sz_div (hc y hy) (by omega)
    · split at h
      · cases h
      · cases h; exact hi
  | eq =>
    simp only [red] at h
    split at h
    · cases h
    · split at h
      · cases h; exact hi
      · rename_i h2
        have hg : 0 < gl 0 c := Nat.pos_of_ne_zero fun z => h2 (.inl z)
        have hcs : ∀ x ∈ c.map (· / (gl 0 c : Int)), Sz b x := fun x hx => by
          obtain ⟨y, hy, rfl⟩ := List.mem_map.mp hx
          exact sz_div (hc y hy) (by omega)
        split at h
        · cases h
          exact ⟨hcs, sz_div hd (by omega), trivial⟩
        · cases h
          refine ⟨fun x hx => ?_, sz_neg (sz_div hd (by omega)), trivial⟩
          obtain ⟨y, hy, rfl⟩ := List.mem_map.mp hx
          exact sz_neg (hcs y hy)
  | div m =>
    have hm1 : 1 ≤ m := ok
    have hP := gl_pos hm1 (c.map (· % m))
    simp only [red] at h
    split at h
    · cases h; exact hi
    · split at h
      · cases h
      · cases h
        refine ⟨fun x hx => ?_, sz_div (sz_mod hm1 hm) (by omega), sz_div (b := b) hm (by omega)⟩
        obtain ⟨y, hy, rfl⟩ := List.mem_map.mp hx
        obtain ⟨z, hz, rfl⟩ := List.mem_map.mp hy
        exact sz_div (sz_mod hm1 hm) (by omega)
def dotk (c p : List Int) : Nat → Int
  | 0 => 0
  | i + 1 => dotk c p i + c.getD i 0 * p.getD i 0
theorem dotk_cons (a b : Int) (c p : List Int) : ∀ i, dotk (a :: c) (b :: p) (i + 1) = a * b + dotk c p i
  | 0 => by simp [dotk]
  | i + 1 => by
    rw [dotk, dotk_cons a b c p i, dotk]
    simp only [List.getD_cons_succ]
    omega
theorem dotk_eq : ∀ (c p : List Int), c.length = p.length → dotk c p p.length = dot c p
  | [], [], _ => rfl
  | a :: c, b :: p, h => by
    rw [List.length_cons, dotk_cons, dotk_eq c p (by simpa using h), dot]
theorem sum_range : ∀ (f : Nat → Int) (n : Nat) (c p : List Int), (∀ i, f i = c.getD i 0 * p.getD i 0) → ((List.range n).map f).sum = dotk c p n
  | f, 0, c, p, h => rfl
  | f, n + 1, c, p, h => by
    rw [List.range_succ, List.map_append, List.sum_append, sum_range f n c p h]
    simp [dotk, h]
theorem getE {c : List Int} {d : Int} {i : Nat} (h : i < c.length) : ((c ++ [d]).map V.int)[i]? = some (V.int (c.getD i 0)) := by
  rw [List.getElem?_map, List.getElem?_append_left h, List.getElem?_eq_getElem h, List.getD_eq_getElem?_getD, List.getElem?_eq_getElem h]
  rfl
theorem getP {p : List Int} {i : Nat} (h : i < p.length) : (p.map V.int)[i]? = some (V.int (p.getD i 0)) := by
  rw [List.getElem?_map, List.getElem?_eq_getElem h, List.getD_eq_getElem?_getD, List.getElem?_eq_getElem h]
  rfl
theorem memD {p : List Int} {i : Nat} (h : i < p.length) : p.getD i 0 ∈ p := by
  rw [List.getD_eq_getElem?_getD, List.getElem?_eq_getElem h]
  exact List.getElem_mem h
theorem dot_sz {a b : Nat} : ∀ (c p : List Int), (∀ x ∈ c, Sz a x) → (∀ y ∈ p, Sz b y) → Sz (a + b + c.length) (dot c p)
  | [], _, _, _ => Sz.zero _
  | _ :: _, [], _, _ => Sz.zero _
  | x :: c, y :: p, h, k => by
    rw [dot]
    have h1 := (h x List.mem_cons_self).mul (k y List.mem_cons_self)
    have h2 := dot_sz c p (fun z hz => h z (List.mem_cons_of_mem _ hz)) (fun z hz => k z (List.mem_cons_of_mem _ hz))
    exact (h1.mono (Nat.le_add_right _ c.length)).add h2
theorem s_ge_eq : (Str.ofString "ge" = Str.ofString "eq") = False := eq_false (by decide +kernel)
theorem s_ge_div : (Str.ofString "ge" = Str.ofString "div") = False := eq_false (by decide +kernel)
theorem s_eq_ge : (Str.ofString "eq" = Str.ofString "ge") = False := eq_false (by decide +kernel)
theorem s_eq_div : (Str.ofString "eq" = Str.ofString "div") = False := eq_false (by decide +kernel)
theorem s_div_ge : (Str.ofString "div" = Str.ofString "ge") = False := eq_false (by decide +kernel)
theorem s_div_eq : (Str.ofString "div" = Str.ofString "eq") = False := eq_false (by decide +kernel)
section
variable {w : World} {K : PySem.W.Frag} {mg : Str → Option Value} {base : Heap} {A : Ad}
def sp_impossible (K : PySem.W.Frag) : Sp := fun vs H Q _ => ∃ n : Nat, vs = [.int (n : Int)] ∧ n ≤ 90 ∧ ∀ H' x, Same H H' → CtT K H' x (imp n) → Q (.ref x) H'
def sp_common_divisor (K : PySem.W.Frag) : Sp := fun vs H Q _ => ∃ (g : Int) (a : Addr) (c : List Int), vs = [.int g, .ref a] ∧ 0 ≤ g ∧ SqT K H a (c.map V.int) ∧ Q (.int ((gl g.toNat c : Nat) : Int)) H
def sp_divided (K : PySem.W.Frag) : Sp := fun vs H Q _ => ∃ (a : Addr) (e : List Int) (g : Int), vs = [.ref a, .int g] ∧ SqT K H a (e.map V.int) ∧ 0 < g ∧ Sz 8500 g ∧ e.length ≤ 100 ∧ ∀ H' t, Same H H' → SqT K H' t ((e.map (· / g)).map V.int) → Q (.ref t) H'
def sp_reduced_inequality (K : PySem.W.Frag) : Sp := fun vs H Q _ => ∃ (a : Addr) (t : Ct), vs = [.int ((gl 0 t.c : Nat) : Int), .ref a] ∧ SqT K H a (t.e.map V.int) ∧ t.k = .ge ∧ Nz t ∧ ∀ H' v, Same H H' → ROp K H' v (red t) → Q v H'
def sp_reduced_equation (K : PySem.W.Frag) : Sp := fun vs H Q _ => ∃ (a : Addr) (t : Ct), vs = [.int ((gl 0 t.c : Nat) : Int), .ref a] ∧ SqT K H a (t.e.map V.int) ∧ t.k = .eq ∧ Nz t ∧ ∀ H' v, Same H H' → ROp K H' v (red t) → Q v H'
def sp_reduced_multiple (K : PySem.W.Frag) : Sp := fun vs H Q _ => ∃ (m : Int) (a : Addr) (t : Ct), vs = [.int m, .ref a] ∧ SqT K H a (t.e.map V.int) ∧ t.k = .div m ∧ 1 ≤ m ∧ Nz t ∧ ∀ H' v, Same H H' → ROp K H' v (red t) → Q v H'
def sp_reduced_constraint (K : PySem.W.Frag) : Sp := fun vs H Q _ => ∃ (x : Addr) (t : Ct), vs = [.ref x] ∧ CtT K H x t ∧ t.k.ok ∧ Nz t ∧ ∀ H' v, Same H H' → ROp K H' v (red t) → Q v H'
theorem ok_impossible (T : Txt K mg A) : FnOk P w K mg base CX0 1 A.f_impossible A.d_impossible ["variables"] (sp_impossible K) := by
  refine T.F_impossible.ok sc_impossible (fun vs H Q E h => ?_) (fun cdv A' outer s H vs Q E hr h => ?_)
  · obtain ⟨n, rfl, _⟩ := h
    rfl
  · obtain ⟨n, rfl, hn, q⟩ := h
    refine ⟨_, (pss_one (ps_ret (pe_tup (pa_cons pe_str (pa_cons (pe_op op_catA (pe_op op_repA (pe_tup (pa_cons pe_int pa_nil)) (pv 0)) (pe_tup (pa_cons (pe_un un_neg pe_int) pa_nil))) pa_nil))))), ?_⟩
    walk_at "wp"
    refine ⟨by decide, fun p np => ⟨p, n, [V.int 0], rfl, rfl, SqT.of upd_same, by simp, by omega, by simp, fun H1 r s1 h1 => ?_⟩⟩
    refine ⟨by decide, fun p2 n2 => cat_sm (sameT (same_upd n2) h1) (SqT.of upd_same) (by simp; omega) fun H3 p3 s3 h3 => ?_⟩
    refine ⟨by decide, fun p4 n4 => ?_⟩
    have e : (List.replicate n [V.int 0]).flatten ++ [V.int (-1)] = (imp n).e.map V.int := by
      rw [Ct.e, imp, List.map_append, List.map_replicate]
      simp
    rw [e] at h3
    have r4 := ct_new (k := .ge) (t := imp n) ((((same_upd np).trans s1).trans (same_upd n2)).trans s3) n4 h3 rfl
    exact q _ _ r4.1 r4.2
theorem ok_common_divisor (T : Txt K mg A) : FnOk P w K mg base CX0 1 A.f_common_divisor A.d_common_divisor ["first", "numbers"] (sp_common_divisor K) := by
  refine T.F_common_divisor.ok sc_common_divisor (fun vs H Q E h => ?_) (fun cdv A' outer s H vs Q E hr h => ?_)
  · obtain ⟨g, a, c, rfl, _⟩ := h
    rfl
  · obtain ⟨g, a, c, rfl, hg, hC, q⟩ := h
    refine ⟨_, (pss_cons (ps_set (i := 2) sc_common_divisor.nd rfl (Or.inl rfl) (pv 0)) 
    (pss_cons (ps_for PassesOwn.never rfl (pi_tup (pv 1)) (pg_name (i := 3) sc_common_divisor.nd rfl (Or.inl rfl)) 
      (pss_one (ps_set (i := 2) sc_common_divisor.nd rfl (Or.inl rfl) (pe_callBfun cr_gcd (by rfl) T.u_gcd (pa_cons (pv 2) (pa_cons (pv 3) pa_nil)))))) 
    (pss_one (ps_ret (pv 2))))), ?_⟩
    walk_at "wp"
    refine ⟨⟨_, hC⟩, ?_⟩
    refine loop_it (walk_tup (xs := c.map V.int)) (fun i σ H' => H' = H ∧ ∃ v, σ = [some (V.int g), some (V.ref a), some (V.int ((gl g.toNat (c.take i) : Nat) : Int)), v]) ⟨rfl, _, by rw [List.take_zero, gl, Int.toNat_of_nonneg hg]⟩ (fun _ _ _ _ p => by rw [p.1]; exact hC) ?_ ?_
    · rintro i x σ H1 H2 hi ⟨rfl, v, rfl⟩ y
      obtain ⟨rfl, e⟩ := yat_at y
      rw [List.length_map] at hi
      rw [List.getElem?_map, List.getElem?_eq_getElem hi] at e
      cases e
      walk_at "wp"
      refine ⟨?_, _, rfl⟩
      rw [List.take_succ_eq_append_getElem hi, gl_snoc, Int.natAbs_natCast]
    · rintro σ H1 ⟨rfl, v, rfl⟩
      rw [List.length_map, List.take_length]
      walk_at "wp"
      exact q
theorem ok_divided (T : Txt K mg A) : FnOk P w K mg base CX0 1 A.f_divided A.d_divided ["expression", "divisor"] (sp_divided K) := by
  refine T.F_divided.ok sc_divided (fun vs H Q E h => ?_) (fun cdv A' outer s H vs Q E hr h => ?_)
  · obtain ⟨a, e, g, rfl, _⟩ := h
    rfl
  · obtain ⟨a, e, g, rfl, hE, hg, hz, hn, q⟩ := h
    refine ⟨_, (pss_one (ps_ret (pe_callTy call_tuple_of (by rfl) T.b_tuple (by decide +kernel) (pa_cons (pe_lc (own := [("number", 2)]) (by rfl) sc_divided.nd (pi_tup (pv 0)) (blkOk_by (own := [("number", 2)]) (N := ["expression", "divisor", "number"]) (sc := defScope s_divided) (by decide +kernel)) (fun _ _ _ _ _ => (pg_name (i := 2) sc_divided.nd rfl (Or.inl rfl) (Or.inr rfl))) (fun _ _ _ _ _ => pts_nil) (fun _ _ _ _ _ => (pe_op op_fdivW (pv 2) (pv 1)))) pa_nil)))), ?_⟩
    walk_at "wp"
    refine ⟨⟨_, hE⟩, fun D hD => lc_tupI (· / g) hE hD (by omega) (fun x H' R hx s1 k => ?_) (fun H' s' e' => ?_)⟩
    · walk_at "wp"
      exact ⟨cdivw hg hz (by decide) (by decide), k _ (Same.refl _)⟩
    · exact ⟨_, .inl ⟨SqL.of e', fun t nt => q _ _ (same_upd2 s' (s'.free nt)) (SqT.of upd_same)⟩⟩
theorem ok_reduced_inequality (T : Txt K mg A) : FnOk P w K mg base CX0 2 A.f_reduced_inequality A.d_reduced_inequality ["divisor", "expression"] (sp_reduced_inequality K) := by
  have G_impossible := ok_impossible (w := w) (base := base) T
  have G_divided := ok_divided (w := w) (base := base) T
  refine T.F_reduced_inequality.ok sc_reduced_inequality (fun vs H Q E h => ?_) (fun cdv A' outer s H vs Q E hr h => ?_)
  · obtain ⟨a, t, rfl, _⟩ := h
    rfl
  · obtain ⟨a, t, rfl, hE, hk, hz, q⟩ := h
    refine ⟨_, (pss_cons (ps_if (pt_cmpR op_gt (pv 0) pe_int (nomark _)) 
      (pss_one (ps_ret (pe_tup (pa_cons pe_str (pa_cons (pe_call G_divided hr (by rfl) T.g_divided T.F_divided.kp T.B_divided .nil pass0 (pa_cons (pv 1) (pa_cons (pv 0) pa_nil))) pa_nil))))) pss_nil) 
    (pss_one (ps_ret (pe_ifExp (pt_cmpR op_ge (pe_ix ix_tup (pv 1) (pe_un un_neg pe_int) (fun _ _ => rfl)) pe_int (nomark _)) pe_non (pe_call G_impossible hr (by rfl) T.g_impossible T.F_impossible.kp T.B_impossible .nil pass0 (pa_cons (pe_op op_sub (pe_callB call_len_seq (by rfl) T.b_len (by decide +kernel) (pa_cons (pv 1) pa_nil)) pe_int) pa_nil)))))), ?_⟩
    walk_at "wp"
    obtain ⟨k, c, d⟩ := t
    cases hk
    simp only [red] at q
    try dsimp only
    by_cases hg : 0 < gl 0 c
    · rw [if_pos hg] at q
      rw [if_pos (decide_eq_true (by omega))]
      refine ⟨a, _, _, rfl, hE, by omega, (sz_gl hz.c (Sz.zero _)).mono (by decide), Nat.le_trans hz.len (by decide), fun H1 r s1 h1 => ⟨by decide, fun p np => ?_⟩⟩
      rw [e_map _ _ .ge] at h1
      have r4 := ct_new (k := .ge) s1 np h1 rfl
      exact q _ _ r4.1 ⟨_, rfl, r4.2⟩
    · rw [if_neg hg] at q
      rw [if_neg (by rw [decide_eq_true_eq]; omega)]
      refine ⟨_, hE, _, e_last, _, rfl, ?_⟩
      by_cases h0 : 0 ≤ d
      · rw [if_pos h0] at q
        rw [if_pos (decide_eq_true h0)]
        exact q _ _ (Same.refl _) rfl
      · rw [if_neg h0] at q
        rw [if_neg (by rw [decide_eq_true_eq]; exact h0)]
        refine ⟨_, .inr hE, c.length, by rw [e_len]; dsimp only; congr 2; omega, hz.1, fun H1 x s1 h1 => q _ _ s1 ⟨_, rfl, h1⟩⟩
theorem ok_reduced_equation (T : Txt K mg A) : FnOk P w K mg base CX0 2 A.f_reduced_equation A.d_reduced_equation ["divisor", "expression"] (sp_reduced_equation K) := by
  have G_divided := ok_divided (w := w) (base := base) T
  have G_impossible := ok_impossible (w := w) (base := base) T
  refine T.F_reduced_equation.ok sc_reduced_equation (fun vs H Q E h => ?_) (fun cdv A' outer s H vs Q E hr h => ?_)
  · obtain ⟨a, t, rfl, _⟩ := h
    rfl
  · obtain ⟨a, t, rfl, hE, hk, hz, q⟩ := h
    obtain ⟨k, c, d⟩ := t
    cases hk
    simp only [red] at q
    have imp_ : ∀ {E0 : XK}, (∀ u : Ct, u = imp c.length → ∀ H' v, Same H H' → ROp K H' v (some u) → Q v H') → ∃ x, (SqL K H a x ∨ SqT K H a x) ∧ sp_impossible K [V.int ((x.length : Int) - 1)] H Q E0 := fun qq =>
      ⟨_, .inr hE, c.length, by rw [e_len]; dsimp only; congr 2; omega, hz.1, fun H2 x s2 h2 => qq _ rfl _ _ s2 ⟨_, rfl, h2⟩⟩
    have ⟨R, hR, kR⟩ : ∃ R, PSs (cxOf CX0 P w K mg base ["divisor", "expression", "numbers", "leading", "number"] "reduced_equation" (defScope s_reduced_equation) A.f_reduced_equation cdv A' outer s H E).nox ((defBody s_reduced_equation).drop 1) R ∧
        (¬ (gl 0 c = 0 ∧ d = 0) → R { nx := fun _ H' => Q .non H', rt := Q } [some (V.int ((gl 0 c : Nat) : Int)), some (V.ref a), none, none, none] H) := by
      refine ⟨_, (pss_cons (ps_if (PW.pt (pw_or (pt_cmpR op_eq (pv 0) pe_int (nomark _)) (pw_or1 (pt_cmpR op_ne (pe_op op_mod (pe_ix ix_tup (pv 1) (pe_un un_neg pe_int) (fun _ _ => rfl)) (pv 0)) pe_int (nomark _))))) 
      (pss_one (ps_ret (pe_call G_impossible hr (by rfl) T.g_impossible T.F_impossible.kp T.B_impossible .nil pass0 (pa_cons (pe_op op_sub (pe_callB call_len_seq (by rfl) T.b_len (by decide +kernel) (pa_cons (pv 1) pa_nil)) pe_int) pa_nil)))) pss_nil) 
    (pss_cons (ps_set (i := 2) sc_reduced_equation.nd rfl (Or.inl rfl) (pe_call G_divided hr (by rfl) T.g_divided T.F_divided.kp T.B_divided .nil pass0 (pa_cons (pv 1) (pa_cons (pv 0) pa_nil)))) 
    (pss_cons (ps_set (i := 3) sc_reduced_equation.nd rfl (Or.inl rfl) (pe_ix ix_list (pe_lc (own := [("number", 4)]) (by rfl) sc_reduced_equation.nd (pi_tup (pe_slice sl_tupA (pv 2) po_none (po_some (pe_un un_neg pe_int)))) (blkOk_by (own := [("number", 4)]) (N := ["divisor", "expression", "numbers", "leading", "number"]) (sc := defScope s_reduced_equation) (by decide +kernel)) (fun _ _ _ _ _ => (pg_name (i := 4) sc_reduced_equation.nd rfl (Or.inl rfl) (Or.inr rfl))) (fun _ _ _ _ _ => pts_one (pt_cmpR op_ne (pv 4) pe_int (nomark _))) (fun _ _ _ _ _ => (pv 4))) pe_int (fun _ _ => rfl))) 
    (pss_one (ps_ret (pe_tup (pa_cons pe_str (pa_cons (pe_ifExp (pt_cmpR op_gt (pv 3) pe_int (nomark _)) (pv 2) (pe_callTy call_tuple_of (by rfl) T.b_tuple (by decide +kernel) (pa_cons (pe_lc (own := [("number", 4)]) (by rfl) sc_reduced_equation.nd (pi_tup (pv 2)) (blkOk_by (own := [("number", 4)]) (N := ["divisor", "expression", "numbers", "leading", "number"]) (sc := defScope s_reduced_equation) (by decide +kernel)) (fun _ _ _ _ _ => (pg_name (i := 4) sc_reduced_equation.nd rfl (Or.inl rfl) (Or.inr rfl))) (fun _ _ _ _ _ => pts_nil) (fun _ _ _ _ _ => (pe_un un_neg (pv 4)))) pa_nil))) pa_nil)))))))), fun h1 => ?_⟩
      rw [if_neg h1] at q
      walk_at "wp"
      by_cases hg : gl 0 c = 0
      · rw [if_pos (.inl hg)] at q
        rw [if_pos (decide_eq_true (by omega))]
        exact imp_ fun u e => e ▸ q
      · have hz8 : Sz 8000 ((gl 0 c : Nat) : Int) := sz_gl hz.c (Sz.zero _)
        have hone := gl_div (Nat.pos_of_ne_zero hg)
        rw [Nat.zero_div] at hone
        generalize gl 0 c = g at *
        rw [if_neg (by rw [decide_eq_true_eq]; omega)]
        refine ⟨_, hE, _, e_last, _, rfl, by omega, ?_⟩
        dsimp only
        by_cases hr : d % (g : Int) = 0
        · rw [if_neg (by rintro (z | z); exact hg z; exact z hr)] at q
          rw [if_neg (by rw [decide_eq_true hr]; decide)]
          refine ⟨a, _, (g : Int), rfl, hE, by omega, hz8.mono (by decide), Nat.le_trans hz.len (by decide), fun H1 r s1 h1 => ?_⟩
          rw [e_map _ _ .eq] at h1
          dsimp only at h1
          generalize hns : c.map (· / (g : Int)) = ns at *
          have hl : ns.length ≤ 90 := by rw [← hns, List.length_map]; exact hz.1
          have h1' := h1
          rw [Ct.e, List.map_append] at h1'
          refine sl_init h1' fun H2 p s2 hp => ⟨p, rfl, ⟨_, hp⟩, fun D hD => ?_⟩
          refine lc_tupIF (fun x => decide (x ≠ 0)) hp hD (show ns.length ≤ 1000000 by omega) (fun x H' N R hx s3 k1 k2 => ?_) (fun H' s' e' => ?_)
          · walk_at "wp"
            by_cases hx0 : x = 0
            · rw [if_neg (by rw [decide_eq_true hx0]; decide)]
              exact k1 (decide_eq_false (fun z => z hx0)) _ (Same.refl _)
            · rw [if_pos (by rw [decide_eq_false hx0]; rfl)]
              exact k2 (decide_eq_true hx0) _ (Same.refl _)
          · obtain ⟨x, r', ex⟩ : ∃ x r', ns.filter (fun x => decide (x ≠ 0)) = x :: r' := by
              cases hf : ns.filter (fun x => decide (x ≠ 0)) with
              | nil => exact absurd (by rw [hf]; rfl) (filter_head ns (gl_one_ne hone))
              | cons x r' => exact ⟨x, r', rfl⟩
            have q2 : (if 0 < x then some (Ct.mk .eq ns (d / (g : Int))) else some (Ct.mk .eq (ns.map (- ·)) (-(d / (g : Int))))) = (if 0 < ((ns.filter (fun x => decide (x ≠ 0))).headD 0) then some (Ct.mk .eq ns (d / (g : Int))) else some (Ct.mk .eq (ns.map (- ·)) (-(d / (g : Int))))) := by rw [ex]; rfl
            rw [← q2] at q
            rw [ex] at e'
            have sA := (s1.trans s2).trans s'
            refine ⟨_, SqL.of e', V.int x, atI_nat (j := 0) rfl, x, rfl, ?_⟩
            by_cases hx : 0 < x
            · rw [if_pos hx] at q
              rw [if_pos (decide_eq_true hx)]
              refine ⟨by decide, fun p4 n4 => ?_⟩
              have r4 := ct_new (k := .eq) sA n4 (sameT (s2.trans s') h1) rfl
              exact q _ _ r4.1 ⟨_, rfl, r4.2⟩
            · rw [if_neg hx] at q
              rw [if_neg (by rw [decide_eq_true_eq]; exact hx)]
              have h5 := sameT (s2.trans s') h1
              refine ⟨_, rfl, ⟨_, h5⟩, fun D2 hD2 => lc_tupI (- ·) h5 hD2 (by rw [Ct.e, List.length_append, List.length_singleton]; show ns.length + 1 ≤ 1000000; omega) (fun x H' R hx s3 k1 => ?_) (fun H7 s7 e7 => ?_)⟩
              · walk_at "wp"
                exact k1 _ (Same.refl _)
              · refine ⟨_, .inl ⟨SqL.of e7, fun l nl => ⟨by decide, fun p4 n4 => ?_⟩⟩⟩
                rw [e_map _ _ .eq] at n4
                dsimp only at n4
                have r4 := ct_new (K := K) (k := .eq) (t := ⟨.eq, ns.map (- ·), -(d / (g : Int))⟩) ((sA.trans s7).trans (same_upd nl)) n4 (SqT.of upd_same) rfl
                rw [e_map _ _ .eq]
                exact q _ _ r4.1 ⟨_, rfl, r4.2⟩
        · rw [if_pos (.inr hr)] at q
          rw [if_pos (by rw [decide_eq_false hr]; rfl)]
          exact imp_ fun u e => e ▸ q
    refine ⟨_, (pss_cons (ps_if (PW.pt (pw_and (pt_cmpR op_eq (pv 0) pe_int (nomark _)) (pw_and1 (pt_cmpR op_eq (pe_ix ix_tup (pv 1) (pe_un un_neg pe_int) (fun _ _ => rfl)) pe_int (nomark _))))) 
      (pss_one (ps_ret pe_non)) pss_nil) hR), ?_⟩
    walk_at "wp"
    try dsimp only
    by_cases hg : gl 0 c = 0
    · rw [if_pos (decide_eq_true (by omega))]
      refine ⟨_, hE, _, e_last, rfl, ?_⟩
      walk_at "wp"
      try dsimp only
      by_cases hd : d = 0
      · rw [if_pos ⟨hg, hd⟩] at q
        rw [if_pos (decide_eq_true hd)]
        exact q _ _ (Same.refl _) rfl
      · rw [if_neg (by rw [decide_eq_true_eq]; exact hd)]
        exact kR fun z => hd z.2
    · rw [if_neg (by rw [decide_eq_true_eq]; omega)]
      exact kR fun z => hg z.1
theorem ok_reduced_multiple (T : Txt K mg A) : FnOk P w K mg base CX0 2 A.f_reduced_multiple A.d_reduced_multiple ["m", "expression"] (sp_reduced_multiple K) := by
  have G_common_divisor := ok_common_divisor (w := w) (base := base) T
  have G_impossible := ok_impossible (w := w) (base := base) T
  have G_divided := ok_divided (w := w) (base := base) T
  refine T.F_reduced_multiple.ok sc_reduced_multiple (fun vs H Q E h => ?_) (fun cdv A' outer s H vs Q E hr h => ?_)
  · obtain ⟨m, a, t, rfl, _⟩ := h
    rfl
  · obtain ⟨m, a, t, rfl, hE, hk, hm, hz, q⟩ := h
    refine ⟨_, (pss_cons (ps_set (i := 2) sc_reduced_multiple.nd rfl (Or.inl rfl) (pe_callTy call_tuple_of (by rfl) T.b_tuple (by decide +kernel) (pa_cons (pe_lc (own := [("number", 3)]) (by rfl) sc_reduced_multiple.nd (pi_tup (pv 1)) (blkOk_by (own := [("number", 3)]) (N := ["m", "expression", "numbers", "number", "divisor"]) (sc := defScope s_reduced_multiple) (by decide +kernel)) (fun _ _ _ _ _ => (pg_name (i := 3) sc_reduced_multiple.nd rfl (Or.inl rfl) (Or.inr rfl))) (fun _ _ _ _ _ => pts_nil) (fun _ _ _ _ _ => (pe_op op_mod (pv 3) (pv 0)))) pa_nil))) 
    (pss_cons (ps_set (i := 4) sc_reduced_multiple.nd rfl (Or.inl rfl) (pe_call G_common_divisor hr (by rfl) T.g_common_divisor T.F_common_divisor.kp T.B_common_divisor .nil pass0 (pa_cons (pv 0) (pa_cons (pe_slice sl_tupA (pv 2) po_none (po_some (pe_un un_neg pe_int))) pa_nil)))) 
    (pss_cons (ps_if (pt_cmpR op_ne (pe_op op_mod (pe_ix ix_tup (pv 2) (pe_un un_neg pe_int) (fun _ _ => rfl)) (pv 4)) pe_int (nomark _)) 
      (pss_one (ps_ret (pe_call G_impossible hr (by rfl) T.g_impossible T.F_impossible.kp T.B_impossible .nil pass0 (pa_cons (pe_op op_sub (pe_callB call_len_seq (by rfl) T.b_len (by decide +kernel) (pa_cons (pv 1) pa_nil)) pe_int) pa_nil)))) pss_nil) 
    (pss_one (ps_ret (pe_ifExp (pt_cmpR op_eq (pv 4) (pv 0) (nomark _)) pe_non (pe_tup (pa_cons pe_str (pa_cons (pe_op op_fdivW (pv 0) (pv 4)) (pa_cons (pe_call G_divided hr (by rfl) T.g_divided T.F_divided.kp T.B_divided .nil pass0 (pa_cons (pv 2) (pa_cons (pv 4) pa_nil))) pa_nil)))))))))), ?_⟩
    walk_at "wp"
    obtain ⟨k, c, d⟩ := t
    cases hk
    simp only [red] at q
    try dsimp only
    refine ⟨⟨_, hE⟩, fun D hD => lc_tupI (· % m) hE hD (Nat.le_trans hz.len (by decide)) (fun x H' R hx s1 k => ?_) (fun H' s' e' => ?_)⟩
    · walk_at "wp"
      exact ⟨by omega, k _ (Same.refl _)⟩
    · have hP := gl_pos hm (c.map (· % m))
      have hG : Sz 8000 ((gl m.toNat (c.map (· % m)) : Nat) : Int) := sz_gl (fun x hx => by
        obtain ⟨y, _, rfl⟩ := List.mem_map.mp hx
        exact sz_mod hm hz.2.2) (by rw [Int.toNat_of_nonneg (by omega)]; exact hz.2.2)
      have e0 : ((Ct.mk (.div m) c d).e.map (· % m)).map V.int = ((c.map (· % m)).map V.int) ++ [V.int (d % m)] := by
        rw [Ct.e, List.map_append, List.map_append]
        rfl
      rw [e0] at e'
      refine ⟨_, .inl ⟨SqL.of e', fun l nl => ?_⟩⟩
      have sl := s'.trans (same_upd (o := .tup ((c.map (· % m)).map V.int ++ [V.int (d % m)])) nl)
      refine sl_init (SqT.of upd_same) fun H1 p s1 hp => ⟨m, p, _, rfl, by omega, hp, ?_⟩
      have hl := sameT (K := K) s1 (SqT.of upd_same)
      have sl1 := sl.trans s1
      have nl0 : (c.map (· % m)).length ≤ 90 := by rw [List.length_map]; exact hz.1
      generalize c.map (· % m) = ns at *
      generalize gl m.toNat ns = g at *
      refine ⟨_, hl, _, atI_last _ _, _, rfl, _, rfl, by omega, ?_⟩
      by_cases h1 : d % m % (g : Int) = 0
      · rw [if_neg (fun z => z h1)] at q
        rw [if_neg (by rw [decide_eq_true h1]; decide)]
        refine ⟨rfl, ?_⟩
        walk_at "wp"
        by_cases h2 : g = m.toNat
        · rw [if_pos h2] at q
          rw [if_pos (decide_eq_true (by omega))]
          exact q _ _ sl1 rfl
        · rw [if_neg h2] at q
          rw [if_neg (by rw [decide_eq_true_eq]; omega)]
          refine ⟨cdivw (by omega) hG (by decide) (by decide), l, ns ++ [d % m], (g : Int), rfl, by rw [List.map_append]; exact hl, by omega, hG.mono (by decide), ?_, fun H2 r s2 h2 => ⟨by decide, fun p np => ?_⟩⟩
          · rw [List.length_append, List.length_singleton]
            omega
          · have r4 := ct_new (k := .div (m / (g : Int))) (sl1.trans s2) np (t := ⟨.div (m / (g : Int)), ns.map (· / (g : Int)), d % m / (g : Int)⟩) (by rw [List.map_append] at h2; exact h2) rfl
            exact q _ _ r4.1 ⟨_, rfl, r4.2⟩
      · rw [if_pos h1] at q
        rw [if_pos (by rw [decide_eq_false h1]; rfl)]
        refine ⟨_, .inr (sameT sl1 hE), c.length, by rw [e_len]; dsimp only; congr 2; omega, hz.1, fun H2 x s2 h2 => q _ _ (sl1.trans s2) ⟨_, rfl, h2⟩⟩
theorem ok_reduced_constraint (T : Txt K mg A) : FnOk P w K mg base CX0 3 A.f_reduced_constraint A.d_reduced_constraint ["constraint"] (sp_reduced_constraint K) := by
  have G_common_divisor := ok_common_divisor (w := w) (base := base) T
  have G_reduced_equation := ok_reduced_equation (w := w) (base := base) T
  have G_reduced_multiple := ok_reduced_multiple (w := w) (base := base) T
  have G_reduced_inequality := ok_reduced_inequality (w := w) (base := base) T
  refine T.F_reduced_constraint.ok sc_reduced_constraint (fun vs H Q E h => ?_) (fun cdv A' outer s H vs Q E hr h => ?_)
  · obtain ⟨x, t, rfl, _⟩ := h
    rfl
  · obtain ⟨x, t, rfl, hT, ok, hz, q⟩ := h
    refine ⟨_, (pss_cons (ps_set (i := 1) sc_reduced_constraint.nd rfl (Or.inl rfl) (pe_ix ix_tup (pv 0) (pe_un un_neg pe_int) (fun _ _ => rfl))) 
    (pss_cons (ps_if (pt_cmpR op_eq (pe_ix ix_tup (pv 0) pe_int (fun _ _ => rfl)) pe_str (nomark _)) 
      (pss_one (ps_ret (pe_call G_reduced_multiple hr (by rfl) T.g_reduced_multiple T.F_reduced_multiple.kp T.B_reduced_multiple .nil pass0 (pa_cons (pe_ix ix_tup (pv 0) pe_int (fun _ _ => rfl)) (pa_cons (pv 1) pa_nil))))) pss_nil) 
    (pss_cons (ps_set (i := 2) sc_reduced_constraint.nd rfl (Or.inl rfl) (pe_call G_common_divisor (hr.mono (by decide)) (by rfl) T.g_common_divisor T.F_common_divisor.kp T.B_common_divisor .nil pass0 (pa_cons pe_int (pa_cons (pe_slice sl_tupA (pv 1) po_none (po_some (pe_un un_neg pe_int))) pa_nil)))) 
    (pss_cons (ps_if (pt_cmpR op_eq (pe_ix ix_tup (pv 0) pe_int (fun _ _ => rfl)) pe_str (nomark _)) 
      (pss_one (ps_ret (pe_call G_reduced_inequality hr (by rfl) T.g_reduced_inequality T.F_reduced_inequality.kp T.B_reduced_inequality .nil pass0 (pa_cons (pv 2) (pa_cons (pv 1) pa_nil))))) pss_nil) 
    (pss_one (ps_ret (pe_call G_reduced_equation hr (by rfl) T.g_reduced_equation T.F_reduced_equation.kp T.B_reduced_equation .nil pass0 (pa_cons (pv 2) (pa_cons (pv 1) pa_nil))))))))), ?_⟩
    walk_at "wp"
    obtain ⟨a, h1, h2⟩ := hT
    have n1 : ("ge" : Str) ≠ "div" := by decide +kernel
    have n2 : ("eq" : Str) ≠ "div" := by decide +kernel
    have n3 : ("eq" : Str) ≠ "ge" := by decide +kernel
    refine ⟨_, h1, _, kv_last, _, h1, ?_⟩
    obtain ⟨k, c, d⟩ := t
    have init : ∀ (H' : Hp) (p : Addr), Same H H' → True := fun _ _ _ => trivial
    have sl : ∀ Q : VK, (∀ H' p, Same H H' → SqT K H' p (c.map V.int) → Q (V.ref p) H') → rSlA K (V.ref a) none (some (-1)) H Q := fun Q qq => by
      rw [Ct.e, List.map_append] at h2
      exact sl_init h2 qq
    cases k with
    | ge =>
      refine ⟨_, rfl, rfl, ?_⟩
      walk_at "wp"
      rw [if_neg (by rw [decide_eq_true_eq]; exact n1)]
      refine sl _ fun H1 p s1 hp => ⟨0, p, c, rfl, by decide, hp, ?_⟩
      refine ⟨_, sameT s1 h1, _, rfl, rfl, ?_⟩
      walk_at "wp"
      exact ⟨a, ⟨.ge, c, d⟩, rfl, sameT s1 h2, rfl, hz, fun H2 v s2 r => q _ _ (s1.trans s2) r⟩
    | eq =>
      refine ⟨_, rfl, rfl, ?_⟩
      walk_at "wp"
      rw [if_neg (by rw [decide_eq_true_eq]; exact n2)]
      refine sl _ fun H1 p s1 hp => ⟨0, p, c, rfl, by decide, hp, ?_⟩
      refine ⟨_, sameT s1 h1, _, rfl, rfl, ?_⟩
      walk_at "wp"
      rw [if_neg (by rw [decide_eq_true_eq]; exact n3)]
      exact ⟨a, ⟨.eq, c, d⟩, rfl, sameT s1 h2, rfl, hz, fun H2 v s2 r => q _ _ (s1.trans s2) r⟩
    | div m =>
      refine ⟨_, rfl, rfl, ?_⟩
      walk_at "wp"
      refine ⟨_, h1, _, rfl, m, a, ⟨.div m, c, d⟩, rfl, h2, rfl, ok, hz, q⟩
end
local macro_rules | `(tactic| walk_at "wp") => `(tactic| simp only [tSeq, tAsg, gName, gTup, gCons, gNil, tVar, tC, tOp, tUn, rI, rI0, rU, tCB, tCons, tNil, tIfS, tRet, tRetN, tNext, tNever, test_eq, tB, tTup, tLst, tCall, tIf, tAndV, tOrV, tNotV, tNot, tAnd, tOr, rEq, rNe, scal_ii, scal_ss, scal_bb, dec_ii, dec_ss, dec_bb, for_eq, lc_eq, while_eq, tDrop, tYes, iList, iTup, iStr, iRng1, iRng2, RZ.iZipA, L2.start, rIxL, rIxT, rIxS, rSlS, cxK, tSl, tPart, tNoPart, tBM, tBM0, rAppend, rExtend, rRepS, rGcd, s_ge_eq, s_ge_div, s_eq_ge, s_eq_div, s_div_ge, s_div_eq, gSub, rSetL, tAug, ipI, rAdd, rSub, tM1, tM0,
  List.map_cons, List.map_nil, List.length_cons, List.length_nil, List.cons_append, List.nil_append, List.append_nil, List.getElem?_cons_succ, List.getElem?_cons_zero, List.set_cons_succ, List.set_cons_zero, Nat.reduceAdd, Nat.reduceSub, List.replicate_succ, List.replicate_zero, wipe,
  Option.some.injEq, V.int.injEq, V.str.injEq, sgn_eq, V.ref.injEq, V.bl.injEq, exists_eq_left, exists_eq_left', exists_and_left, exists_eq_right, List.cons.injEq, and_true, true_and, ex_bl, ex_int, exists_const, Nat.zero_add, Int.toNat_natCast, Int.zero_add, and_assoc, reduceCtorEq, false_and, and_false, exists_false, or_false, false_or, eq_self, decide_true, decide_false, ite_true, ite_false, if_true, if_false, Bool.false_eq_true, Bool.not_true, Bool.not_false, ↓reduceIte])
section
variable {w : World} {K : PySem.W.Frag} {mg : Str → Option Value} {base : Heap} {A : Ad}
def kvv : Kd → V → List V
  | .ge, a => [.str "ge", a]
  | .eq, a => [.str "eq", a]
  | .div m, a => [.str "div", .int m, a]
/-- a constraint that a law draws -/
structure Gd (n : Nat) (t : Ct) : Prop where
  ok : t.k.ok
  len : t.c.length = n
  cs : ∀ x ∈ t.c, Sz 4 x
  ds : Sz 80 t.d
  ms : match t.k with | .div m => Sz 4 m | _ => True
/-- a point that a law draws -/
structure Pt (n : Nat) (p : List Int) : Prop where
  len : p.length = n
  ps : ∀ x ∈ p, Sz 5 x
theorem Gd.nz {n : Nat} {t : Ct} (g : Gd n t) (hn : n ≤ 90) : Nz t := by
  refine ⟨by rw [g.len]; exact hn, fun x hx => ?_, ?_⟩
  · rcases List.mem_append.mp hx with h | h
    · exact (g.cs x h).mono (by decide)
    · rw [List.mem_singleton.mp h]
      exact g.ds.mono (by decide)
  · have := g.ms
    cases hk : t.k with
    | div m => rw [hk] at this; exact Sz.mono this (by decide)
    | ge => trivial
    | eq => trivial
def sp_law_cell (K : PySem.W.Frag) : Sp := fun vs H Q _ => ∃ (l : Addr) (ns : List Int) (j : Nat), vs = [V.ref l, V.int (j : Nat)] ∧ SqL K H l (ns.map V.int) ∧ Q (.int (L2.cellOf ns j)) H
def sp_law_draws (K : PySem.W.Frag) : Sp := fun vs H Q _ => ∃ (c : Int) (n : Nat), vs = [.int c, .int (n : Int)] ∧ Sz 1048577 c ∧ n ≤ 100 ∧ ∀ H' t (ds : List Int), Same H H' → H' t = some (.lst (ds.map V.int)) → H t = none → ds.length = n → Q (.ref t) H'
def sp_law_value (K : PySem.W.Frag) : Sp := fun vs H Q _ => ∃ (a b : Addr) (c : List Int) (d : Int) (p : List Int), vs = [.ref a, .ref b] ∧ SqT K H a ((c ++ [d]).map V.int) ∧ SqT K H b (p.map V.int) ∧ c.length = p.length ∧ p.length ≤ 90 ∧ (∀ x ∈ c, Sz 100000 x) ∧ (∀ x ∈ p, Sz 100000 x) ∧
  ∀ H', Same H H' → Q (.int (dot c p + d)) H'
def sp_law_holds (K : PySem.W.Frag) : Sp := fun vs H Q _ => ∃ (x b : Addr) (t : Ct) (p : List Int), vs = [.ref x, .ref b] ∧ CtT K H x t ∧ t.k.ok ∧ SqT K H b (p.map V.int) ∧ t.c.length = p.length ∧ p.length ≤ 90 ∧ (∀ x ∈ t.c, Sz 100000 x) ∧ (∀ x ∈ p, Sz 100000 x) ∧
  ∀ H', Same H H' → Q (.bl (t.at_ p)) H'
def sp_law_is_integer (K : PySem.W.Frag) : Sp := fun vs H Q _ => ∃ i : Int, vs = [.int i] ∧ Q (.bl true) H
def sp_law_is_constraint (K : PySem.W.Frag) : Sp := fun vs H Q _ => ∃ (x : Addr) (t : Ct) (n : Nat), vs = [.ref x, .int (n : Int)] ∧ CtT K H x t ∧ t.k.ok ∧ t.c.length = n ∧ ∀ H', Same H H' → Q (.bl true) H'
def sp_law_point (K : PySem.W.Frag) : Sp := fun vs H Q _ => ∃ (c : Int) (n : Nat), vs = [.int c, .int (n : Int)] ∧ Sz 1048577 c ∧ n ≤ 90 ∧ ∀ H' t (p : List Int), Same H H' → SqT K H' t (p.map V.int) → Pt n p → Q (.ref t) H'
def sp_law_constraint (K : PySem.W.Frag) : Sp := fun vs H Q _ => ∃ (c : Int) (b : Addr) (p : List Int) (n : Nat), vs = [.int c, .ref b] ∧ Sz 1048577 c ∧ SqT K H b (p.map V.int) ∧ Pt n p ∧ n ≤ 40 ∧ ∀ H' x (t : Ct), Same H H' → CtT K H' x t → Gd n t → Q (.ref x) H'
theorem ok_law_cell (T : Txt K mg A) : FnOk P w K mg base CX0 1 A.f_law_cell A.d_law_cell ["script", "k"] (sp_law_cell K) := by
  refine T.F_law_cell.ok sc_law_cell (fun vs H Q E h => ?_) (fun cdv A' outer s H vs Q E hr h => ?_)
  · obtain ⟨a, ns, j, rfl, _⟩ := h
    rfl
  · obtain ⟨a, ns, j, rfl, hS, q⟩ := h
    refine ⟨_, (pss_cons (ps_if (pt_cmpR op_lt (pv 1) (pe_callB call_len_seq (by rfl) T.b_len (by decide +kernel) (pa_cons (pv 0) pa_nil)) (nomark _)) 
      (pss_one (ps_ret (pe_ix ix_list (pv 0) (pv 1) (fun _ _ => rfl)))) pss_nil) 
    (pss_one (ps_ret pe_int))), ?_⟩
    walk_at "wp"
    refine ⟨_, .inl hS, ?_⟩
    by_cases hj : j < ns.length
    · rw [if_pos (by rw [List.length_map]; exact decide_eq_true (by omega))]
      exact ⟨_, hS, _, atI_cell hj, q⟩
    · rw [if_neg (by rw [List.length_map, decide_eq_true_eq]; omega)]
      rw [cell_out hj] at q
      exact q
theorem ok_law_draws (T : Txt K mg A) : FnOk P w K mg base CX0 1 A.f_law_draws A.d_law_draws ["cell", "count"] (sp_law_draws K) := by
  refine T.F_law_draws.ok sc_law_draws (fun vs H Q E h => ?_) (fun cdv A' outer s H vs Q E hr h => ?_)
  · obtain ⟨c, n, rfl, _⟩ := h
    rfl
  · obtain ⟨c, n, rfl, hc, hn, q⟩ := h
    refine ⟨_, (pss_cons (ps_set (i := 2) sc_law_draws.nd rfl (Or.inl rfl) (pe_lst pa_nil)) 
    (pss_cons (ps_set (i := 3) sc_law_draws.nd rfl (Or.inl rfl) (pe_callTy call_intI (by rfl) T.b_int (by decide +kernel) (pa_cons (pv 0) pa_nil))) 
    (pss_cons (ps_for PassesOwn.never rfl (pi_range1 (by rfl) T.b_range (pa_cons (pv 1) pa_nil)) (pg_name (i := 4) sc_law_draws.nd rfl (Or.inl rfl)) 
      (pss_cons (ps_set (i := 5) sc_law_draws.nd rfl (Or.inl rfl) (pe_op op_mod (pe_callTy call_intI (by rfl) T.b_int (by decide +kernel) (pa_cons (pe_op op_add (pe_op op_add (pe_op op_mulX (pv 0) pe_int) (pe_op op_mulX (pv 4) pe_int)) pe_int) pa_nil)) pe_int)) 
      (pss_one (ps_if (pt_cmpR op_ge (pv 0) (pe_op op_pow pe_int pe_int) (nomark _)) 
        (pss_cons (ps_expr (pe_bm PySem.F.plainAttrs_list PySem.F.slot_list_append PySem.F.type_list_append mt_append (pv 2) (pa_cons (pe_op op_mod (pv 3) pe_int) pa_nil))) 
        (pss_one (ps_set (i := 3) sc_law_draws.nd rfl (Or.inl rfl) (pe_op op_fdiv (pv 3) pe_int)))) 
        (pss_one (ps_expr (pe_bm PySem.F.plainAttrs_list PySem.F.slot_list_append PySem.F.type_list_append mt_append (pv 2) (pa_cons (pe_op op_fdiv (pe_op op_mod (pe_callTy call_intI (by rfl) T.b_int (by decide +kernel) (pa_cons (pe_op op_add (pe_op op_mulX (pv 5) (pv 5)) (pe_op op_mulX (pv 5) pe_int)) pa_nil)) pe_int) pe_int) pa_nil)))))))) 
    (pss_one (ps_ret (pv 2)))))), ?_⟩
    walk_at "wp"
    refine ⟨Nat.zero_le _, fun p np => ⟨by omega, by omega, ?_⟩⟩
    obtain ⟨Pv, hPv⟩ : ∃ Pv : Nat → St → Hp → Prop, ∀ i σ H', Pv i σ H' ↔ ∃ (r : Int) (ds : List Int) (v4 v5 : Option V), σ = [some (V.int c), some (V.int (n : Int)), some (V.ref p), some (V.int r), v4, v5] ∧ Same H H' ∧ H' p = some (.lst (ds.map V.int)) ∧ ds.length = i := ⟨_, fun _ _ _ => Iff.rfl⟩
    refine loop_it (walk_range0 (n := n)) Pv ((hPv _ _ _).mpr ⟨_, [], none, none, rfl, same_upd np, upd_same, rfl⟩) (fun _ _ _ _ _ => trivial) ?_ ?_
    · intro i x σ H1 H2 hi pw y
      obtain ⟨r, ds, v4, v5, rfl, s1, e1, hl⟩ := (hPv _ _ _).mp pw
      obtain ⟨rfl, rfl⟩ := y
      walk_at "wp"
      have sz : (ds.map V.int).length < sizeLine := small1000 (by rw [List.length_map]; omega)
      have ty : tyV K "list" (V.ref p) H2 := .inl ⟨rfl, _, SqL.of e1⟩
      have fin : ∀ (r' : Int) (v4' v5' : Option V) (z : Int), Pv (i + 1) [some (V.int c), some (V.int (n : Int)), some (V.ref p), some (V.int r'), v4', v5'] (upd H2 p (.lst (ds.map V.int ++ [V.int z]))) := fun r' v4' v5' z =>
        (hPv _ _ _).mpr ⟨r', ds ++ [z], v4', v5', rfl, fun b o e => by rw [upd_ne (ne_of_none e np)]; exact s1 _ _ e, by rw [upd_same, List.map_append]; rfl, by rw [List.length_append, List.length_singleton]; omega⟩
      have hi7 : Sz 7 ((i : Nat) : Int) := by
        unfold Sz
        rw [Int.natAbs_natCast]
        show i < 128
        omega
      have szk : ∀ z : Int, 0 ≤ z → z < 2147483648 → Sz 31 z := fun z z0 z1 => by
        unfold Sz
        show z.natAbs < 2147483648
        omega
      refine ⟨⟨_, _, hc, szk 48271 (by decide) (by decide), by decide⟩, ⟨_, _, hi7, szk 69621 (by decide) (by decide), by decide⟩, ?_⟩
      have m0 := Int.emod_nonneg (c * 48271 + (i : Int) * 69621 + 1) (show (2147483647 : Int) ≠ 0 by decide)
      have m1 := Int.emod_lt_of_pos (c * 48271 + (i : Int) * 69621 + 1) (show (0 : Int) < 2147483647 by decide)
      generalize (c * 48271 + (i : Int) * 69621 + 1) % 2147483647 = mx at *
      have hm := szk mx m0 (by omega)
      refine ⟨by decide, ⟨by decide, by decide, by decide⟩, ?_⟩
      split
      · exact ⟨ty, by decide, _, e1, sz, ⟨by decide, by decide⟩, fin _ _ _ _⟩
      · refine ⟨ty, ⟨_, _, hm, hm, by decide⟩, ⟨_, _, hm, szk 40692 (by decide) (by decide), by decide⟩, by decide, ⟨by decide, by decide⟩, _, e1, sz, fin _ _ _ _⟩
    · intro σ H1 pw
      obtain ⟨r, ds, v4, v5, rfl, s1, e1, hl⟩ := (hPv _ _ _).mp pw
      walk_at "wp"
      exact q _ _ ds s1 e1 np hl
theorem ok_law_value (T : Txt K mg A) : FnOk P w K mg base CX0 1 A.f_law_value A.d_law_value ["expression", "point"] (sp_law_value K) := by
  refine T.F_law_value.ok sc_law_value (fun vs H Q E h => ?_) (fun cdv A' outer s H vs Q E hr h => ?_)
  · obtain ⟨a, b, c, d, p, rfl, _⟩ := h
    rfl
  · obtain ⟨a, b, c, d, p, rfl, hE, hB, hl, hn, hc, hp, q⟩ := h
    refine ⟨_, (pss_cons (ps_set (i := 2) sc_law_value.nd rfl (Or.inl rfl) (pe_ix ix_tup (pv 0) (pe_un un_neg pe_int) (fun _ _ => rfl))) 
    (pss_cons (ps_for PassesOwn.never rfl (RZ.pi_zipA (by rfl) T.b_zip (pa_cons (pv 0) (pa_cons (pv 1) pa_nil))) (pg_tup rfl (pgs_cons (pg_name (i := 3) sc_law_value.nd rfl (Or.inl rfl)) (pgs_cons (pg_name (i := 4) sc_law_value.nd rfl (Or.inl rfl)) pgs_nil))) 
      (pss_one (ps_set (i := 2) sc_law_value.nd rfl (Or.inl rfl) (pe_op op_add (pv 2) (pe_op op_mulX (pv 3) (pv 4)))))) 
    (pss_one (ps_ret (pv 2))))), ?_⟩
    walk_at "wp"
    refine ⟨_, hE, _, atI_lastI, _, _, .inr ⟨hE, hB, ?_⟩⟩
    refine loop_it (walk_zipT (n := p.length) (by rw [List.length_map, List.length_map, List.length_append, List.length_singleton, hl]; omega)) (fun i σ H' => Same H H' ∧ ∃ v3 v4, σ = [some (V.ref a), some (V.ref b), some (V.int (dotk c p i + d)), v3, v4]) ⟨Same.refl _, _, _, by rw [dotk, Int.zero_add]⟩ (fun i σ H' _ p => ⟨sameT p.1 hE, sameT p.1 hB⟩) ?_ ?_
    · rintro i x σ H1 H2 hi ⟨s1, v3, v4, rfl⟩ ⟨t, x, y, rfl, nt, rfl, e1, e2⟩
      cases e1.symm.trans (getE (by omega))
      cases e2.symm.trans (getP hi)
      walk_at "wp"
      refine ⟨_, .inl (.inl upd_same), ?_⟩
      walk_at "wp"
      refine ⟨by rfl, ⟨_, _, hc _ (memD (by omega)), hp _ (memD hi), by decide⟩, s1.trans (same_upd nt), ?_, _, rfl⟩
      rw [dotk]
      omega
    · rintro σ H1 ⟨s1, v3, v4, rfl⟩
      rw [dotk_eq _ _ hl]
      walk_at "wp"
      exact q _ s1
theorem ok_law_holds (T : Txt K mg A) : FnOk P w K mg base CX0 2 A.f_law_holds A.d_law_holds ["constraint", "point"] (sp_law_holds K) := by
  have G_law_value := ok_law_value (w := w) (base := base) T
  refine T.F_law_holds.ok sc_law_holds (fun vs H Q E h => ?_) (fun cdv A' outer s H vs Q E hr h => ?_)
  · obtain ⟨x, b, t, p, rfl, _⟩ := h
    rfl
  · obtain ⟨x, b, t, p, rfl, hT, ok, hB, hl, hn, hc, hp, q⟩ := h
    refine ⟨_, (pss_cons (ps_set (i := 2) sc_law_holds.nd rfl (Or.inl rfl) (pe_call G_law_value hr (by rfl) T.g_law_value T.F_law_value.kp T.B_law_value .nil pass0 (pa_cons (pe_ix ix_tup (pv 0) (pe_un un_neg pe_int) (fun _ _ => rfl)) (pa_cons (pv 1) pa_nil)))) 
    (pss_cons (ps_if (pt_cmpR op_eq (pe_ix ix_tup (pv 0) pe_int (fun _ _ => rfl)) pe_str (nomark _)) 
      (pss_one (ps_ret (pe_cmpR op_ge (pv 2) pe_int (nomark _)))) pss_nil) 
    (pss_cons (ps_if (pt_cmpR op_eq (pe_ix ix_tup (pv 0) pe_int (fun _ _ => rfl)) pe_str (nomark _)) 
      (pss_one (ps_ret (pe_cmpR op_eq (pv 2) pe_int (nomark _)))) pss_nil) 
    (pss_one (ps_ret (pe_cmpR op_eq (pe_op op_mod (pe_callTy call_intI (by rfl) T.b_int (by decide +kernel) (pa_cons (pv 2) pa_nil)) (pe_ix ix_tup (pv 0) pe_int (fun _ _ => rfl))) pe_int (nomark _))))))), ?_⟩
    walk_at "wp"
    obtain ⟨a, h1, h2⟩ := hT
    refine ⟨_, h1, _, kv_last, a, b, t.c, t.d, p, rfl, h2, hB, hl, hn, hc, hp, fun H' s' => ?_⟩
    have h1' := sameT s' h1
    have q' := q H' s'
    refine ⟨_, h1', ?_⟩
    obtain ⟨k, c, d⟩ := t
    cases k with
    | ge =>
      refine ⟨_, rfl, rfl, ?_⟩
      walk_at "wp"
      exact q'
    | eq =>
      refine ⟨_, rfl, rfl, ?_⟩
      walk_at "wp"
      refine ⟨_, h1', _, rfl, rfl, ?_⟩
      walk_at "wp"
      exact q'
    | div m =>
      refine ⟨_, rfl, rfl, ?_⟩
      walk_at "wp"
      refine ⟨_, h1', _, rfl, rfl, ?_⟩
      walk_at "wp"
      have h3 : 1 ≤ m := ok
      refine ⟨_, h1', _, rfl, _, rfl, by omega, ?_⟩
      exact q'
theorem ok_law_point (T : Txt K mg A) : FnOk P w K mg base CX0 2 A.f_law_point A.d_law_point ["cell", "variables"] (sp_law_point K) := by
  have G_law_draws := ok_law_draws (w := w) (base := base) T
  refine T.F_law_point.ok sc_law_point (fun vs H Q E h => ?_) (fun cdv A' outer s H vs Q E hr h => ?_)
  · obtain ⟨c, n, rfl, _⟩ := h
    rfl
  · obtain ⟨c, n, rfl, hc, hn, q⟩ := h
    refine ⟨_, (pss_one (ps_ret (pe_callTy call_tuple_of (by rfl) T.b_tuple (by decide +kernel) (pa_cons (pe_lc (own := [("number", 2)]) (by rfl) sc_law_point.nd (pi_list (pe_call G_law_draws hr (by rfl) T.g_law_draws T.F_law_draws.kp T.B_law_draws .nil pass0 (pa_cons (pv 0) (pa_cons (pv 1) pa_nil)))) (blkOk_by (own := [("number", 2)]) (N := ["cell", "variables", "number"]) (sc := defScope s_law_point) (by decide +kernel)) (fun _ _ _ _ _ => (pg_name (i := 2) sc_law_point.nd rfl (Or.inl rfl) (Or.inr rfl))) (fun _ _ _ _ _ => pts_nil) (fun _ _ _ _ _ => (pe_op op_sub (pe_op op_mod (pv 2) pe_int) pe_int))) pa_nil)))), ?_⟩
    walk_at "wp"
    refine ⟨c, n, rfl, hc, by omega, fun H1 l ds s1 e1 nl hl => ⟨l, rfl, ⟨_, SqL.of e1⟩, fun D hD => ?_⟩⟩
    refine lc_lstI (fun x => x % 19 - 9) (SqL.of e1) hD (by omega) (fun x H' R hx s3 k1 => ?_) (fun H' s' e' => ?_)
    · walk_at "wp"
      exact ⟨by decide, k1 _ (Same.refl _)⟩
    · refine ⟨_, .inl ⟨SqL.of e', fun t nt => q _ _ _ ((s1.trans s').trans (same_upd nt)) (SqT.of upd_same) ⟨by rw [List.length_map, hl], fun x hx => ?_⟩⟩⟩
      obtain ⟨y, _, rfl⟩ := List.mem_map.mp hx
      unfold Sz
      omega
theorem ok_law_constraint (T : Txt K mg A) : FnOk P w K mg base CX0 2 A.f_law_constraint A.d_law_constraint ["cell", "point"] (sp_law_constraint K) := by
  have G_law_draws := ok_law_draws (w := w) (base := base) T
  have G_law_value := ok_law_value (w := w) (base := base) T
  refine T.F_law_constraint.ok sc_law_constraint (fun vs H Q E h => ?_) (fun cdv A' outer s H vs Q E hr h => ?_)
  · obtain ⟨c, b, p, n, rfl, _⟩ := h
    rfl
  · obtain ⟨c, b, p, n, rfl, hc, hB, hP, hn, q⟩ := h
    have ⟨R, hR, kR⟩ : ∃ R, PSs (cxOf CX0 P w K mg base ["cell", "point", "numbers", "size", "coefficients", "number", "value", "kind", "modulus", "slack", "constant"] "_law_constraint" (defScope s_law_constraint) A.f_law_constraint cdv A' outer s H E).nox ((defBody s_law_constraint).drop 6) R ∧
        ∀ (H1 : Hp) (nl ca : Addr) (ds cs : List Int) (v m : Int) (kk : Str) (v3 v5 v9 v10 : Option V), Same H H1 → H1 nl = some (.lst (ds.map V.int)) → ds.length = n + 4 → SqT K H1 ca (cs.map V.int) → cs.length = n → (∀ x ∈ cs, Sz 4 x) → Sz 70 v → 1 ≤ m → m ≤ 6 →
          (kk = Str.ofString "ge" ∨ kk = Str.ofString "eq" ∨ kk = Str.ofString "div") →
          R { nx := fun _ H' => Q .non H', rt := Q } [some (V.int c), some (V.ref b), some (V.ref nl), v3, some (V.ref ca), v5, some (V.int v), some (V.str kk), some (V.int m), v9, v10] H1 := by
      refine ⟨_, (pss_cons (ps_set (i := 9) sc_law_constraint.nd rfl (Or.inl rfl) (pe_op op_mod (pe_ix ix_list (pv 2) pe_int (fun _ _ => rfl)) pe_int)) 
    (pss_cons (ps_if (pt_cmpR op_eq (pv 7) pe_str (nomark _)) 
      (pss_one (ps_set (i := 9) sc_law_constraint.nd rfl (Or.inl rfl) pe_int)) pss_nil) 
    (pss_cons (ps_if (pt_cmpR op_eq (pv 7) pe_str (nomark _)) 
      (pss_one (ps_set (i := 9) sc_law_constraint.nd rfl (Or.inl rfl) (pe_op op_mulX (pv 8) (pe_op op_sub (pv 9) pe_int)))) pss_nil) 
    (pss_cons (ps_set (i := 10) sc_law_constraint.nd rfl (Or.inl rfl) (pe_op op_sub (pv 9) (pv 6))) 
    (pss_cons (ps_if (pt_cmpR op_eq (pe_op op_mod (pe_op op_fdiv (pe_ix ix_list (pv 2) pe_int (fun _ _ => rfl)) pe_int) pe_int) pe_int (nomark _)) 
      (pss_one (ps_set (i := 10) sc_law_constraint.nd rfl (Or.inl rfl) (pe_op op_sub (pe_op op_add (pv 10) (pe_op op_mod (pe_op op_fdiv (pe_ix ix_list (pv 2) pe_int (fun _ _ => rfl)) pe_int) pe_int)) pe_int))) pss_nil) 
    (pss_cons (ps_if (pt_cmpR op_eq (pv 7) pe_str (nomark _)) 
      (pss_one (ps_ret (pe_tup (pa_cons pe_str (pa_cons (pv 8) (pa_cons (pe_op op_catA (pv 4) (pe_tup (pa_cons (pv 10) pa_nil))) pa_nil)))))) pss_nil) 
    (pss_one (ps_ret (pe_tup (pa_cons (pv 7) (pa_cons (pe_op op_catA (pv 4) (pe_tup (pa_cons (pv 10) pa_nil))) pa_nil))))))))))), fun H1 nl ca ds cs v m kk v3 v5 v9 v10 s1 e1 hl hca hcl hcs hv m1 m6 hk => ?_⟩
      have dz : ∀ j : Nat, j < 4 → ∃ z, ds[j]? = some z := fun j hj => ⟨_, List.getElem?_eq_getElem (by omega)⟩
      have ix : ∀ (j : Nat) z, ds[j]? = some z → atI (ds.map V.int) (j : Int) = some (V.int z) := fun j z e => atI_nat (by rw [List.getElem?_map, e]; rfl)
      obtain ⟨z0, ez0⟩ := dz 0 (by decide)
      obtain ⟨z2, ez2⟩ := dz 2 (by decide)
      obtain ⟨z3, ez3⟩ := dz 3 (by decide)
      have hl' := SqL.of (K := K) e1
      have hv' : v.natAbs < 2 ^ 70 := hv
      have hs0 := Int.emod_nonneg z3 (show (5 : Int) ≠ 0 by decide)
      have hs1 := Int.emod_lt_of_pos z3 (show (0 : Int) < 5 by decide)
      have hq0 := Int.emod_nonneg (z2 / 6) (show (7 : Int) ≠ 0 by decide)
      have hq1 := Int.emod_lt_of_pos (z2 / 6) (show (0 : Int) < 7 by decide)
      have fin : ∀ (k : Kd) (x : Int), k.ok → (match k with | .div m => Sz 4 m | _ => True) → x.natAbs < 2 ^ 71 → (1 ≤ sizeLine ∧ ∀ p, H1 p = none → rCatA K (V.ref ca) (V.ref p) (upd H1 p (.tup [V.int x])) fun y H2 => (kvv k .non).length ≤ sizeLine ∧ ∀ p, H2 p = none → Q (V.ref p) (upd H2 p (.tup (kvv k y)))) := fun k x ok km hx =>
        ⟨by decide, fun p4 n4 => cat_sm (ys := [V.int x]) (sameT (same_upd n4) hca) (SqT.of upd_same) (by rw [List.length_map]; simp; omega) fun H5 p5 s5 h5 => ⟨by cases k <;> (first | decide | exact (by decide : 3 ≤ sizeLine)), fun p6 n6 => by
          have r4 := ct_new (K := K) (k := k) (t := ⟨k, cs, x⟩) ((s1.trans (same_upd n4)).trans s5) n6 (by rw [Ct.e, List.map_append]; exact h5) rfl
          have ek : kvv k (V.ref p5) = k.v p5 := by cases k <;> rfl
          rw [ek]
          exact q _ _ _ r4.1 r4.2 ⟨ok, hcl, hcs, Sz.mono (a := 71) hx (by decide), km⟩⟩⟩
      rcases hk with rfl | rfl | rfl
      · walk_at "wp"
        refine ⟨_, hl', _, ix 3 z3 ez3, z3, rfl, by decide, _, hl', _, ix 0 z0 ez0, z0, rfl, ⟨by decide, by decide⟩, by decide, ?_⟩
        split
        · exact ⟨_, hl', _, ix 2 z2 ez2, z2, rfl, ⟨by decide, by decide⟩, by decide, fin .ge _ trivial trivial (by omega)⟩
        · exact fin .ge _ trivial trivial (by omega)
      · walk_at "wp"
        refine ⟨_, hl', _, ix 3 z3 ez3, z3, rfl, by decide, _, hl', _, ix 0 z0 ez0, z0, rfl, ⟨by decide, by decide⟩, by decide, ?_⟩
        split
        · exact ⟨_, hl', _, ix 2 z2 ez2, z2, rfl, ⟨by decide, by decide⟩, by decide, fin .eq _ trivial trivial (by omega)⟩
        · exact fin .eq _ trivial trivial (by omega)
      · walk_at "wp"
        have h4 : Sz 4 m := by unfold Sz; show m.natAbs < 16; omega
        have h5 : Sz 4 (z3 % 5 - 2) := by unfold Sz; show Int.natAbs _ < 16; omega
        have h8 : (m * (z3 % 5 - 2)).natAbs < 2 ^ 8 := h4.mul h5
        refine ⟨_, hl', _, ix 3 z3 ez3, z3, rfl, by decide, ⟨_, _, h4, h5, by decide⟩, _, hl', _, ix 0 z0 ez0, z0, rfl, ⟨by decide, by decide⟩, by decide, ?_⟩
        generalize m * (z3 % 5 - 2) = mm at *
        split
        · exact ⟨_, hl', _, ix 2 z2 ez2, z2, rfl, ⟨by decide, by decide⟩, by decide, fin (.div m) _ m1 h4 (by omega)⟩
        · exact fin (.div m) _ m1 h4 (by omega)
    refine ⟨_, (pss_cons (ps_set (i := 2) sc_law_constraint.nd rfl (Or.inl rfl) (pe_call G_law_draws hr (by rfl) T.g_law_draws T.F_law_draws.kp T.B_law_draws .nil pass0 (pa_cons (pv 0) (pa_cons (pe_op op_add (pe_callB call_len_seq (by rfl) T.b_len (by decide +kernel) (pa_cons (pv 1) pa_nil)) pe_int) pa_nil)))) 
    (pss_cons (ps_set (i := 3) sc_law_constraint.nd rfl (Or.inr rfl) (pe_ix ix_tup (pe_tup (pa_cons pe_int (pa_cons pe_int (pa_cons pe_int pa_nil)))) (pe_op op_mod (pe_ix ix_list (pv 2) pe_int (fun _ _ => rfl)) pe_int) (fun _ _ => rfl))) 
    (pss_cons (ps_set (i := 4) sc_law_constraint.nd rfl (Or.inl rfl) (pe_callTy call_tuple_of (by rfl) T.b_tuple (by decide +kernel) (pa_cons (pe_lc (own := [("number", 5)]) (by rfl) sc_law_constraint.nd (pi_list (pe_slice sl_list (pv 2) (po_some pe_int) po_none)) (blkOk_by (own := [("number", 5)]) (N := ["cell", "point", "numbers", "size", "coefficients", "number", "value", "kind", "modulus", "slack", "constant"]) (sc := defScope s_law_constraint) (by decide +kernel)) (fun _ _ _ _ _ => (pg_name (i := 5) sc_law_constraint.nd rfl (Or.inl rfl) (Or.inr rfl))) (fun _ _ _ _ _ => pts_nil) (fun _ _ _ _ _ => (pe_op op_sub (pe_op op_mod (pv 5) (pe_op op_add (pe_op op_mulX pe_int (pv 3)) pe_int)) (pv 3)))) pa_nil))) 
    (pss_cons (ps_set (i := 6) sc_law_constraint.nd rfl (Or.inl rfl) (pe_call G_law_value hr (by rfl) T.g_law_value T.F_law_value.kp T.B_law_value .nil pass0 (pa_cons (pe_op op_catA (pv 4) (pe_tup (pa_cons pe_int pa_nil))) (pa_cons (pv 1) pa_nil)))) 
    (pss_cons (ps_set (i := 7) sc_law_constraint.nd rfl (Or.inl rfl) (pe_ix ix_tup (pe_tup (pa_cons pe_str (pa_cons pe_str (pa_cons pe_str (pa_cons pe_str pa_nil))))) (pe_op op_mod (pe_ix ix_list (pv 2) pe_int (fun _ _ => rfl)) pe_int) (fun _ _ => rfl))) 
    (pss_cons (ps_set (i := 8) sc_law_constraint.nd rfl (Or.inl rfl) (pe_op op_add pe_int (pe_op op_mod (pe_ix ix_list (pv 2) pe_int (fun _ _ => rfl)) pe_int))) hR)))))), ?_⟩
    walk_at "wp"
    refine ⟨_, .inr hB, c, n + 4, by rw [List.length_map, hP.len, Int.natCast_add]; rfl, hc, by omega, fun H1 nl ds s1 e1 _ hl => ⟨by decide, fun pz nz => ?_⟩⟩
    have e1' := (same_upd (o := .tup [V.int 1, V.int 3, V.int 9]) nz) _ _ e1
    have dz : ∀ j : Nat, j < 4 → ∃ z, ds[j]? = some z := fun j hj => ⟨_, List.getElem?_eq_getElem (by omega)⟩
    have ix : ∀ (j : Nat) z, ds[j]? = some z → atI (ds.map V.int) (j : Int) = some (V.int z) := fun j z e => atI_nat (by rw [List.getElem?_map, e]; rfl)
    obtain ⟨z0, ez0⟩ := dz 0 (by decide)
    obtain ⟨z1, ez1⟩ := dz 1 (by decide)
    obtain ⟨z2, ez2⟩ := dz 2 (by decide)
    obtain ⟨sz, hsz, esz⟩ : ∃ sz : Int, (sz = 1 ∨ sz = 3 ∨ sz = 9) ∧ atI [V.int 1, V.int 3, V.int 9] (z0 % 3) = some (V.int sz) := by
      have h1 := Int.emod_nonneg z0 (show (3 : Int) ≠ 0 by decide)
      have h2 := Int.emod_lt_of_pos z0 (show (0 : Int) < 3 by decide)
      rcases (by omega : z0 % 3 = 0 ∨ z0 % 3 = 1 ∨ z0 % 3 = 2) with e | e | e
      · exact ⟨1, .inl rfl, by rw [e]; rfl⟩
      · exact ⟨3, .inr (.inl rfl), by rw [e]; rfl⟩
      · exact ⟨9, .inr (.inr rfl), by rw [e]; rfl⟩
    refine ⟨nl, rfl, _, SqL.of e1', _, ix 0 z0 ez0, z0, rfl, by decide, _, SqT.of upd_same, _, esz, ?_⟩
    have ec : cutV (ds.map V.int) (some 4) none = (ds.drop 4).map V.int := by
      unfold cutV
      rw [show HT.sIx (ds.map V.int).length 0 (some 4) = min 4 (ds.map V.int).length from HT.sIx_nat _ 0 4, HT.sIx_none, List.length_map, hl, show min 4 (n + 4) = 4 by omega, ← List.map_drop, List.take_of_length_le (by rw [List.length_map, List.length_drop]; omega)]
    refine ⟨nl, _, rfl, SqL.of e1', fun p2 n2 => ?_⟩
    rw [ec]
    refine ⟨p2, rfl, ⟨_, SqL.of upd_same⟩, fun D hD => ?_⟩
    refine lc_lstI (fun x => x % (2 * sz + 1) - sz) (SqL.of upd_same) hD (by rw [List.length_drop]; omega) (fun x H' R hx s3 k1 => ?_) (fun H3 s3 e3 => ?_)
    · walk_at "wp"
      refine ⟨⟨2, 4, by unfold Sz; decide, by unfold Sz; rcases hsz with rfl | rfl | rfl <;> decide, by decide⟩, by rcases hsz with rfl | rfl | rfl <;> decide, k1 _ (Same.refl _)⟩
    · have hcs : ∀ x ∈ (ds.drop 4).map (fun x => x % (2 * sz + 1) - sz), Sz 4 x := fun x hx => by
        obtain ⟨y, _, rfl⟩ := List.mem_map.mp hx
        have h1 := Int.emod_nonneg y (show 2 * sz + 1 ≠ 0 by omega)
        have h2 := Int.emod_lt_of_pos y (show 0 < 2 * sz + 1 by omega)
        unfold Sz
        show Int.natAbs _ < 16
        omega
      have hcl : ((ds.drop 4).map (fun x => x % (2 * sz + 1) - sz)).length = n := by rw [List.length_map, List.length_drop]; omega
      generalize (ds.drop 4).map (fun x => x % (2 * sz + 1) - sz) = cs at *
      have sA := ((s1.trans (same_upd nz)).trans (same_upd n2)).trans s3
      have e13 : H3 nl = some (.lst (ds.map V.int)) := s3 _ _ ((same_upd n2) _ _ e1')
      refine ⟨_, .inl ⟨SqL.of e3, fun ca nca => ⟨by decide, fun p5 n5 => ?_⟩⟩⟩
      have s5 := (same_upd (o := .tup (cs.map V.int)) nca).trans (same_upd (o := .tup [V.int 0]) n5)
      have hca : SqT K (upd (upd H3 ca (.tup (cs.map V.int))) p5 (.tup [V.int 0])) ca (cs.map V.int) := sameT (same_upd n5) (SqT.of upd_same)
      refine cat_sm (ys := [V.int 0]) hca (SqT.of upd_same) (by rw [List.length_map]; simp; omega) fun H6 p6 s6 h6 => ?_
      have sB := (sA.trans s5).trans s6
      refine ⟨p6, b, cs, 0, p, rfl, by rw [List.map_append]; exact h6, sameT sB hB, by rw [hcl, hP.len], by rw [hP.len]; omega, fun x hx => (hcs x hx).mono (by decide), fun x hx => (hP.ps x hx).mono (by decide), fun H7 s7 => ⟨by decide, fun p8 n8 => ?_⟩⟩
      have e17 := (same_upd (o := .tup [V.str (Str.ofString "ge"), V.str (Str.ofString "ge"), V.str (Str.ofString "eq"), V.str (Str.ofString "div")]) n8) _ _ (s7 _ _ (s6 _ _ (s5 _ _ e13)))
      obtain ⟨kk, hkk, ekk⟩ : ∃ kk : Str, (kk = Str.ofString "ge" ∨ kk = Str.ofString "eq" ∨ kk = Str.ofString "div") ∧ atI [V.str (Str.ofString "ge"), V.str (Str.ofString "ge"), V.str (Str.ofString "eq"), V.str (Str.ofString "div")] (z1 % 4) = some (V.str kk) := by
        have h1 := Int.emod_nonneg z1 (show (4 : Int) ≠ 0 by decide)
        have h2 := Int.emod_lt_of_pos z1 (show (0 : Int) < 4 by decide)
        rcases (by omega : z1 % 4 = 0 ∨ z1 % 4 = 1 ∨ z1 % 4 = 2 ∨ z1 % 4 = 3) with e | e | e | e
        · exact ⟨_, .inl rfl, by rw [e]; rfl⟩
        · exact ⟨_, .inl rfl, by rw [e]; rfl⟩
        · exact ⟨_, .inr (.inl rfl), by rw [e]; rfl⟩
        · exact ⟨_, .inr (.inr rfl), by rw [e]; rfl⟩
      refine ⟨nl, rfl, _, SqL.of e17, _, ix 1 z1 ez1, z1, rfl, by decide, _, SqT.of upd_same, _, ekk, nl, rfl, _, SqL.of e17, _, ix 2 z2 ez2, z2, rfl, by decide, ?_⟩
      have hm0 := Int.emod_nonneg z2 (show (6 : Int) ≠ 0 by decide)
      have hm1 := Int.emod_lt_of_pos z2 (show (0 : Int) < 6 by decide)
      refine kR _ nl ca ds cs _ _ kk _ _ _ _ ((sB.trans s7).trans (same_upd n8)) e17 hl (sameT ((s6.trans s7).trans (same_upd n8)) hca) hcl hcs ?_ (by omega) (by omega) hkk
      rw [Int.add_zero]
      have := dot_sz cs p hcs hP.ps
      exact this.mono (by rw [hcl]; omega)
end
local macro_rules | `(tactic| walk_at "wp") => `(tactic| simp only [tSeq, tAsg, gName, gTup, gCons, gNil, tVar, tC, tOp, tUn, rI, rI0, rU, tCB, tCons, tNil, tIfS, tRet, tRetN, tNext, tNever, test_eq, tB, tTup, tLst, tCall, tIf, tAndV, tOrV, tNotV, tNot, tAnd, tOr, rEq, rNe, scal_ii, scal_ss, scal_bb, dec_ii, dec_ss, dec_bb, for_eq, lc_eq, while_eq, tDrop, tYes, iList, iTup, iOr, tDNewN, tNSet, rNSet, sFld, tFld, tMake, tProp, tMeth, cxP, cxW, iStr, iRng1, iRng2, RZ.iZipA, L2.start, rIxL, rIxT, rIxS, rSlS, cxK, tSl, tPart, tNoPart, tBM, tBM0, rAppend, rExtend, rRepS, rGcd, s_ge_eq, s_ge_div, s_eq_ge, s_eq_div, s_div_ge, s_div_eq, gSub, rSetL, tAug, ipI, rAdd, rSub, tM1, tM0,
  List.map_cons, List.map_nil, List.length_cons, List.length_nil, List.cons_append, List.nil_append, List.append_nil, List.getElem?_cons_succ, List.getElem?_cons_zero, List.set_cons_succ, List.set_cons_zero, Nat.reduceAdd, Nat.reduceSub, List.replicate_succ, List.replicate_zero, wipe,
  Option.some.injEq, V.int.injEq, V.str.injEq, sgn_eq, V.ref.injEq, V.bl.injEq, exists_eq_left, exists_eq_left', exists_and_left, exists_eq_right, List.cons.injEq, and_true, true_and, ex_bl, ex_int, exists_const, Nat.zero_add, Int.toNat_natCast, Int.zero_add, and_assoc, reduceCtorEq, false_and, and_false, exists_false, or_false, false_or, eq_self, decide_true, decide_false, ite_true, ite_false, if_true, if_false, Bool.false_eq_true, Bool.not_true, Bool.not_false, ↓reduceIte])
/-! ### constraints as data -/
def Kd.pd : Kd → PyData → List PyData
  | .ge, d => [.str "ge", d]
  | .eq, d => [.str "eq", d]
  | .div m, d => [.str "div", .int m, d]
def Ct.pd (t : Ct) : PyData := .tuple (t.k.pd (.tuple (t.e.map PyData.int)))
theorem dp_ints {K : PySem.W.Frag} {H : Hp} : ∀ xs : List Int, DpAll K H (xs.map V.int) (xs.map PyData.int)
  | [] => .nil
  | x :: r => .cons (.int x) (dp_ints r)
theorem dp_ct {K : PySem.W.Frag} {H : Hp} {x : Addr} {t : Ct} (h : CtT K H x t) : Dp K H (.ref x) t.pd := by
  obtain ⟨a, h1, h2⟩ := h
  refine .tup h1 ?_
  have d := Dp.tup h2 (dp_ints t.e)
  cases t.k with
  | ge => exact .cons (.str _) (.cons d .nil)
  | eq => exact .cons (.str _) (.cons d .nil)
  | div m => exact .cons (.str _) (.cons (.int _) (.cons d .nil))
theorem lay_ints : ∀ xs : List Int, PyData.canLayAll0 (xs.map PyData.int) = true
  | [] => rfl
  | x :: r => by rw [List.map_cons, PyData.canLayAll0, lay_ints r]; rfl
theorem depth_ints : ∀ xs : List Int, PyData.depthAll (xs.map PyData.int) = 0
  | [] => rfl
  | x :: r => by rw [List.map_cons, PyData.depthAll, depth_ints r]; rfl
theorem lay_ct (t : Ct) : t.pd.canLay0 = true := by
  unfold Ct.pd
  cases t.k <;> simp only [Kd.pd, PyData.canLay0, PyData.canLayAll0, lay_ints] <;> decide +kernel
theorem depth_ct (t : Ct) : t.pd.depth ≤ 2 := by
  unfold Ct.pd
  cases t.k <;> simp only [Kd.pd, PyData.depth, PyData.depthAll, depth_ints] <;> decide
theorem shaped_ct (t : Ct) : SeqAt.shaped t.pd = true := by
  unfold SeqAt.shaped
  rw [lay_ct, decide_eq_true (Nat.le_trans (depth_ct t) (by decide))]
  rfl
/-! ### all but one object stand -/
def SBut (x : Addr) (H H' : Hp) : Prop := ∀ b o, b ≠ x → H b = some o → H' b = some o
theorem SBut.same {x : Addr} {H0 H H' : Hp} (s : SBut x H H') (h : Same H0 H) (n : H0 x = none) : Same H0 H' := fun b o e => s b o (ne_of_none e n) (h b o e)
theorem Same.but {x : Addr} {H H' : Hp} (s : Same H H') : SBut x H H' := fun b o _ e => s b o e
theorem SBut.trans {x : Addr} {H H1 H2 : Hp} (a : SBut x H H1) (b : SBut x H1 H2) : SBut x H H2 := fun c o n e => b c o n (a c o n e)
theorem SBut.upd {x : Addr} {H : Hp} {o : HO} : SBut x H (L2.upd H x o) := fun b u n e => by rw [upd_ne n]; exact e
def NoTup (o : HO) : Prop := (∀ xs, o ≠ .tup xs) ∧ ∀ ob xs, o ≠ .frz ob (.tup xs)
theorem sqT_but {K : PySem.W.Frag} {x a : Addr} {H H' : Hp} {o : HO} {xs : List V} (s : SBut x H H') (hx : H x = some o) (no : NoTup o) (h : SqT K H a xs) : SqT K H' a xs := by
  rcases h with (h | ⟨ob, h⟩) | h
  · exact .inl (.inl (s _ _ (ne_of h hx (fun z => no.1 _ z.symm)) h))
  · exact .inl (.inr ⟨ob, s _ _ (ne_of h hx (fun z => no.2 _ _ z.symm)) h⟩)
  · exact .inr h
theorem CtT.but {K : PySem.W.Frag} {x a : Addr} {H H' : Hp} {o : HO} {t : Ct} (s : SBut x H H') (hx : H x = some o) (no : NoTup o) (h : CtT K H a t) : CtT K H' a t := let ⟨b, h1, h2⟩ := h; ⟨b, sqT_but s hx no h1, sqT_but s hx no h2⟩
theorem noTup_ins {C dx : Addr} {fs : List (Str × V)} : NoTup (.ins C dx fs) := ⟨fun _ z => (by cases z), fun _ _ z => (by cases z)⟩
theorem noTup_lst {xs : List V} : NoTup (.lst xs) := ⟨fun _ z => (by cases z), fun _ _ z => (by cases z)⟩
theorem noTup_ext {φ : Heap → Prop} : NoTup (.ext φ) := ⟨fun _ z => (by cases z), fun _ _ z => (by cases z)⟩
section
variable {w : World} {K : PySem.W.Frag} {mg : Str → Option Value} {base : Heap} {A : Ad}
/-! ### rows and systems -/
abbrev Rw := Addr × Ct
def rv (rs : List Rw) : List V := rs.map fun r => V.ref r.1
def cts (rs : List Rw) : List Ct := rs.map (·.2)
def RwOk (K : PySem.W.Frag) (H : Hp) (rs : List Rw) : Prop := ∀ r ∈ rs, CtT K H r.1 r.2
theorem RwOk.same {K : PySem.W.Frag} {H H' : Hp} {rs : List Rw} (h : RwOk K H rs) (s : Same H H') : RwOk K H' rs := fun r hr => (h r hr).same s
/-- a constraint over n variables whose numbers are not too great -/
structure Wf (n : Nat) (t : Ct) : Prop where
  ok : t.k.ok
  len : t.c.length = n
  nz : Nz t
theorem Gd.wf {n : Nat} {t : Ct} (g : Gd n t) (hn : n ≤ 90) : Wf n t := ⟨g.ok, g.len, g.nz hn⟩
theorem imp_nz {n : Nat} (hn : n ≤ 90) : Nz (imp n) := ⟨by show (List.replicate n (0 : Int)).length ≤ 90; rw [List.length_replicate]; exact hn, fun x hx => by
  rcases List.mem_append.mp hx with h | h
  · rw [imp_cs n x h]; exact Sz.zero _
  · rw [List.mem_singleton.mp h]; exact sz_one _ (by decide), trivial⟩
theorem imp_wf {n : Nat} (hn : n ≤ 90) : Wf n (imp n) := ⟨trivial, List.length_replicate .., imp_nz hn⟩
theorem Wf.red {n : Nat} {t u : Ct} (w : Wf n t) (h : red t = some u) : Wf n u := by
  have a := red_ok w.ok h
  have b := red_all (b := 8000) (by decide) w.ok h w.nz.c w.nz.d w.nz.2.2
  exact ⟨a.1, a.2.trans w.len, by rw [a.2]; exact w.nz.1, fun x hx => by
    rcases List.mem_append.mp hx with h | h
    · exact b.1 x h
    · rw [List.mem_singleton.mp h]; exact b.2.1, b.2.2⟩
/-- a system -/
def SyO (C dx : Addr) (n : Nat) (ra : Addr) : HO := .ins C dx [("variables", .int (n : Int)), ("rows", .ref ra)]
structure Sy (K : PySem.W.Frag) (C : Addr) (H : Hp) (a dx ra : Addr) (n : Nat) (rs : List Rw) : Prop where
  ob : H a = some (SyO C dx n ra)
  rt : SqT K H ra (rv rs)
  ok : RwOk K H rs
theorem Sy.same {K : PySem.W.Frag} {C : Addr} {H H' : Hp} {a dx ra : Addr} {n : Nat} {rs : List Rw} (h : Sy K C H a dx ra n rs) (s : Same H H') : Sy K C H' a dx ra n rs := ⟨s _ _ h.ob, sameT s h.rt, h.ok.same s⟩
theorem look_var {x y : V} : ([(("variables" : Str), x), ("rows", y)] : List (Str × V)).lookup ("variables" : Str) = some x := by simp [List.lookup]
theorem look_rows {x y : V} : ([(("variables" : Str), x), ("rows", y)] : List (Str × V)).lookup ("rows" : Str) = some y := by
  simp [List.lookup, show (("rows" : Str) == ("variables" : Str)) = false by decide +kernel]
def sp_is_integer (K : PySem.W.Frag) : Sp := fun vs H Q _ => ∃ i : Int, vs = [.int i] ∧ Q (.bl true) H
def sp_is_tuple_of_integers (K : PySem.W.Frag) : Sp := fun vs H Q _ => ∃ (a : Addr) (xs : List Int) (c : Int), vs = [.ref a, .int c] ∧ SqT K H a (xs.map V.int) ∧ xs.length ≤ 1000000 ∧ ∀ H', Same H H' → Q (.bl (decide ((xs.length : Int) = c))) H'
def sp_is_constraint (K : PySem.W.Frag) : Sp := fun vs H Q _ => ∃ (x : Addr) (t : Ct) (n : Nat), vs = [.ref x, .int (n : Int)] ∧ CtT K H x t ∧ t.k.ok ∧ t.c.length = n ∧ n ≤ 90 ∧ ∀ H', Same H H' → Q (.bl true) H'
def sp_System___init__ (A : Ad) (K : PySem.W.Frag) : Sp := fun vs H Q _ => ∃ (x dx : Addr) (n : Nat) (ra : Addr) (rs : List Rw), vs = [.ref x, .int (n : Int), .ref ra] ∧ H x = some (.ins A.C_System dx []) ∧ (SqL K H ra (rv rs) ∨ SqT K H ra (rv rs)) ∧ RwOk K H rs ∧ (∀ r ∈ rs, Wf n r.2) ∧ n ≤ 90 ∧ rs.length ≤ 6000 ∧
  ∀ H' rb, (∀ b o, b ≠ x → H b = some o → H' b = some o) → Sy K A.C_System H' x dx rb n rs → Q .non H'
/-- a new system -/
theorem sys_make {A : Ad} {K : PySem.W.Frag} {H1 : Hp} {n : Nat} {ra : Addr} {rs : List Rw} {Qa : Addr → Hp → Prop} {E : XK} (hR : SqL K H1 ra (rv rs) ∨ SqT K H1 ra (rv rs)) (hO : RwOk K H1 rs) (hW : ∀ r ∈ rs, Wf n r.2) (hn : n ≤ 90) (hr : rs.length ≤ 6000)
    (k : ∀ H2 x dx rb, Same H1 H2 → Sy K A.C_System H2 x dx rb n rs → Qa x H2) :
    ∀ x dx, H1 x = none → H1 dx = none → dx ≠ x → sp_System___init__ A K (.ref x :: ([.int (n : Int), .ref ra] ++ [])) (upd (upd H1 dx (.own x)) x (.ins A.C_System dx [])) (fun v H2 => v = .non ∧ Qa x H2) E := by
  intro x dx nx ndx ne
  have s1 : Same H1 (upd (upd H1 dx (.own x)) x (.ins A.C_System dx [])) := fun b o e => by
    rw [upd_ne (ne_of_none e nx), upd_ne (ne_of_none e ndx)]
    exact e
  refine ⟨x, dx, n, ra, rs, rfl, upd_same, ?_, hO.same s1, hW, hn, hr, fun H' rb b sy => ⟨rfl, k H' x dx rb ?_ sy⟩⟩
  · rcases hR with h | h
    · exact .inl (s1.seq h)
    · exact .inr (sameT s1 h)
  · exact SBut.same b s1 nx
theorem ok_is_integer (T : Txt K mg A) : FnOk P w K mg base CX0 1 A.f_is_integer A.d_is_integer ["value"] (sp_is_integer K) := by
  refine T.F_is_integer.ok sc_is_integer (fun vs H Q E h => ?_) (fun cdv A' outer s H vs Q E hr h => ?_)
  · obtain ⟨i, rfl, _⟩ := h
    rfl
  · obtain ⟨i, rfl, q⟩ := h
    refine ⟨_, (pss_one (ps_ret (pe_and (pe_callB call_isi (by rfl) T.b_isinstance (by decide +kernel) (pa_cons (pv 0) (pa_cons (pe_bltn (v := .ty "int") (by rfl) T.b_int (by decide +kernel) rfl) pa_nil))) (pe_one (pe_not (pe_callB call_isi (by rfl) T.b_isinstance (by decide +kernel) (pa_cons (pv 0) (pa_cons (pe_bltn (v := .ty "bool") (by rfl) T.b_bool (by decide +kernel) rfl) pa_nil)))))))), ?_⟩
    walk_at "wp"
    refine isi ty_int (r := true) (by decide +kernel) ?_
    walk_at "wp"
    refine isi ty_int (r := false) (by decide +kernel) ?_
    walk_at "wp"
    exact q
theorem ok_is_tuple_of_integers (T : Txt K mg A) : FnOk P w K mg base CX0 2 A.f_is_tuple_of_integers A.d_is_tuple_of_integers ["value", "count"] (sp_is_tuple_of_integers K) := by
  have G_is_integer := ok_is_integer (w := w) (base := base) T
  refine T.F_is_tuple_of_integers.ok sc_is_tuple_of_integers (fun vs H Q E h => ?_) (fun cdv A' outer s H vs Q E hr h => ?_)
  · obtain ⟨a, xs, c, rfl, _⟩ := h
    rfl
  · obtain ⟨a, xs, c, rfl, hX, hn, q⟩ := h
    refine ⟨_, (pss_cons (ps_if (PW.pt (pw_or (pt_not (pt_val (pe_callB call_isi (by rfl) T.b_isinstance (by decide +kernel) (pa_cons (pv 0) (pa_cons (pe_bltn (v := .ty "tuple") (by rfl) T.b_tuple (by decide +kernel) rfl) pa_nil))))) (pw_or1 (pt_cmpR op_ne (pe_callB call_len_seq (by rfl) T.b_len (by decide +kernel) (pa_cons (pv 0) pa_nil)) (pv 1) (nomark _))))) 
      (pss_one (ps_ret pe_bl)) pss_nil) 
    (pss_one (ps_ret (pe_callB (cr_all rfl) (by rfl) T.b_all (by decide +kernel) (pa_cons (pe_lc (own := [("number", 2)]) (by rfl) sc_is_tuple_of_integers.nd (pi_tup (pv 0)) (blkOk_by (own := [("number", 2)]) (N := ["value", "count", "number"]) (sc := defScope s_is_tuple_of_integers) (by decide +kernel)) (fun _ _ _ _ _ => (pg_name (i := 2) sc_is_tuple_of_integers.nd rfl (Or.inl rfl) (Or.inr rfl))) (fun _ _ _ _ _ => pts_nil) (fun _ _ _ _ _ => (pe_call G_is_integer hr (by rfl) T.g_is_integer T.F_is_integer.kp T.B_is_integer .nil pass0 (pa_cons (pv 2) pa_nil)))) pa_nil))))), ?_⟩
    walk_at "wp"
    refine isi (ty_tup hX) (r := true) (by decide +kernel) ?_
    walk_at "wp"
    refine ⟨_, .inr hX, ?_⟩
    rw [List.length_map]
    by_cases hc : (xs.length : Int) = c
    · rw [if_neg (by rw [decide_eq_true hc]; decide)]
      rw [decide_eq_true hc] at q
      refine ⟨⟨_, hX⟩, fun D hD => lc_yat (walk_tup (xs := xs.map V.int)) rfl (fun _ => V.bl true) hD (by rw [List.length_map]; exact hn) (fun H' s => sameT s hX) (fun x H' R hx s1 k => ?_) (fun H' s' e => ?_)⟩
      · obtain ⟨z, _, rfl⟩ := List.mem_map.mp hx
        walk_at "wp"
        exact ⟨z, rfl, k _ (Same.refl _)⟩
      · refine ⟨D, (xs.map V.int).map (fun _ => true), rfl, ?_, ?_⟩
        · rw [List.map_map]
          exact SqL.of e
        · rw [show ((xs.map V.int).map (fun _ => true)).all id = true by simp]
          exact q _ s'
    · rw [if_pos (by rw [decide_eq_false hc]; rfl)]
      rw [decide_eq_false hc] at q
      exact q _ (Same.refl _)
theorem ok_is_constraint (T : Txt K mg A) : FnOk P w K mg base CX0 3 A.f_is_constraint A.d_is_constraint ["row", "variables"] (sp_is_constraint K) := by
  have G_is_tuple_of_integers := ok_is_tuple_of_integers (w := w) (base := base) T
  have G_is_integer := ok_is_integer (w := w) (base := base) T
  refine T.F_is_constraint.ok sc_is_constraint (fun vs H Q E h => ?_) (fun cdv A' outer s H vs Q E hr h => ?_)
  · obtain ⟨x, t, n, rfl, _⟩ := h
    rfl
  · obtain ⟨x, t, n, rfl, hT, ok, hl, hn, q⟩ := h
    refine ⟨_, (pss_cons (ps_if (PW.pt (pw_or (pt_not (pt_val (pe_callB call_isi (by rfl) T.b_isinstance (by decide +kernel) (pa_cons (pv 0) (pa_cons (pe_bltn (v := .ty "tuple") (by rfl) T.b_tuple (by decide +kernel) rfl) pa_nil))))) (pw_or1 (pt_cmpR op_lt (pe_callB call_len_seq (by rfl) T.b_len (by decide +kernel) (pa_cons (pv 0) pa_nil)) pe_int (nomark _))))) 
      (pss_one (ps_ret pe_bl)) pss_nil) 
    (pss_cons (ps_if (pt_not (pt_val (pe_call G_is_tuple_of_integers hr (by rfl) T.g_is_tuple_of_integers T.F_is_tuple_of_integers.kp T.B_is_tuple_of_integers .nil pass0 (pa_cons (pe_ix ix_tup (pv 0) (pe_un un_neg pe_int) (fun _ _ => rfl)) (pa_cons (pe_op op_add (pv 1) pe_int) pa_nil))))) 
      (pss_one (ps_ret pe_bl)) pss_nil) 
    (pss_cons (ps_if (pt_cmpR op_eq (pe_ix ix_tup (pv 0) pe_int (fun _ _ => rfl)) pe_str (nomark _)) 
      (pss_one (ps_ret (pe_and (pe_cmpR op_eq (pe_callB call_len_seq (by rfl) T.b_len (by decide +kernel) (pa_cons (pv 0) pa_nil)) pe_int (nomark _)) (pe_and (pe_call G_is_integer (hr.mono (by decide)) (by rfl) T.g_is_integer T.F_is_integer.kp T.B_is_integer .nil pass0 (pa_cons (pe_ix ix_tup (pv 0) pe_int (fun _ _ => rfl)) pa_nil)) (pe_one (pe_cmpR op_ge (pe_ix ix_tup (pv 0) pe_int (fun _ _ => rfl)) pe_int (nomark _))))))) pss_nil) 
    (pss_one (ps_ret (pe_and (pe_cmpR op_eq (pe_callB call_len_seq (by rfl) T.b_len (by decide +kernel) (pa_cons (pv 0) pa_nil)) pe_int (nomark _)) (pe_one (pe_cmpR op_in_seq (pe_ix ix_tup (pv 0) pe_int (fun _ _ => rfl)) (pe_tup (pa_cons pe_str (pa_cons pe_str pa_nil))) (by rfl))))))))), ?_⟩
    walk_at "wp"
    obtain ⟨a, h1, h2⟩ := hT
    refine isi (ty_tup h1) (r := true) (by decide +kernel) ?_
    walk_at "wp"
    refine ⟨_, .inr h1, ?_⟩
    rw [if_neg (by rw [decide_eq_true_eq]; cases t.k <;> (show ¬ ((_ : Nat) : Int) < 2; simp [Kd.v]))]
    have hel : t.e.length = n + 1 := by rw [← List.length_map (f := V.int), e_len, hl]
    refine ⟨_, h1, _, kv_last, a, t.e, (n : Int) + 1, rfl, h2, by omega, fun H1 s1 => ⟨true, by rw [hel, decide_eq_true (by omega)], ?_⟩⟩
    have h1' := sameT s1 h1
    walk_at "wp"
    refine ⟨_, h1', ?_⟩
    obtain ⟨k, c, d⟩ := t
    cases k with
    | ge =>
      refine ⟨_, rfl, rfl, ?_⟩
      walk_at "wp"
      refine ⟨_, .inr h1', ?_⟩
      rw [if_pos (by rfl)]
      refine ⟨_, h1', _, rfl, by decide, fun p np => ?_⟩
      exact rin ["ge", "eq"] (v := "ge") (.inr (SqT.of upd_same)) (by rw [decide_eq_true (by decide +kernel)]; exact q _ (s1.trans (same_upd np)))
    | eq =>
      refine ⟨_, rfl, rfl, ?_⟩
      walk_at "wp"
      refine ⟨_, .inr h1', ?_⟩
      rw [if_pos (by rfl)]
      refine ⟨_, h1', _, rfl, by decide, fun p np => ?_⟩
      exact rin ["ge", "eq"] (v := "eq") (.inr (SqT.of upd_same)) (by rw [decide_eq_true (by decide +kernel)]; exact q _ (s1.trans (same_upd np)))
    | div m =>
      refine ⟨_, rfl, rfl, ?_⟩
      walk_at "wp"
      refine ⟨_, .inr h1', ?_⟩
      rw [if_pos (by rfl)]
      refine ⟨_, h1', _, rfl, m, rfl, ?_⟩
      walk_at "wp"
      refine ⟨_, h1', _, rfl, m, rfl, ?_⟩
      rw [decide_eq_true (show 1 ≤ m from ok)]
      exact q _ s1
theorem ok_System___init__ (T : Txt K mg A) : FnOk P w K mg base CX0 4 A.f_System___init__ A.d_System___init__ ["self", "variables", "rows"] (sp_System___init__ A K) := by
  have G_is_constraint := ok_is_constraint (w := w) (base := base) T
  refine T.F_System___init__.ok sc_System___init__ (fun vs H Q E h => ?_) (fun cdv A' outer s H vs Q E hr h => ?_)
  · obtain ⟨x, dx, n, ra, rs, rfl, _⟩ := h
    rfl
  · obtain ⟨x, dx, n, ra, rs, rfl, hx, hR, hO, hW, hn, hr9, q⟩ := h
    refine ⟨_, (pss_cons (ps_if (pt_not (pt_val (pe_callB (cr_all rfl) (by rfl) T.b_all (by decide +kernel) (pa_cons (pe_lc (own := [("row", 3)]) (by rfl) sc_System___init__.nd (pi_or (pi_list (pv 2)) (pi_tup (pv 2))) (blkOk_by (own := [("row", 3)]) (N := ["self", "variables", "rows", "row"]) (sc := defScope s_System___init__) (by decide +kernel)) (fun _ _ _ _ _ => (pg_name (i := 3) sc_System___init__.nd rfl (Or.inl rfl) (Or.inr rfl))) (fun _ _ _ _ _ => pts_nil) (fun _ _ _ _ _ => (pe_call G_is_constraint hr (by rfl) T.g_is_constraint T.F_is_constraint.kp T.B_is_constraint .nil pass0 (pa_cons (pv 3) (pa_cons (pv 1) pa_nil))))) pa_nil)))) 
      (pss_one ps_never) pss_nil) 
    (pss_cons (ps_fld (pv 0) (pv 1) rfl) 
    (pss_one (ps_fld (pv 0) (pe_callTy call_tuple_of (by rfl) T.b_tuple (by decide +kernel) (pa_cons (pv 2) pa_nil)) rfl)))), ?_⟩
    walk_at "wp"
    have body : ∀ (D : Addr) (R : Hp → Prop), H D = none → (∀ H', Same H H' → H' D = some (.lst (rs.map fun _ => V.bl true)) → R H') → ∀ (J : It), (Walk J (rv rs).length (fun H' => Same H H') (YAt (rv rs))) →
        LoopC J (gName 3) tYes (tCall (sp_is_constraint K) [] E0 (tCons (tVar 3) (tCons (tVar 1) tNil))) [3] [some (V.ref x), some (V.int (n : Int)), some (V.ref ra), none] H D R := fun D R hD k J wk => by
      refine lc_yat wk rfl (fun _ => V.bl true) hD (by rw [rv, List.length_map]; omega) (fun H' s => s) (fun v H' R' hv s1 k1 => ?_) (fun H' s' e => k H' s' ?_)
      · obtain ⟨r, hr', rfl⟩ := List.mem_map.mp hv
        walk_at "wp"
        exact ⟨r.1, r.2, n, rfl, (hO r hr').same s1, (hW r hr').ok, (hW r hr').len, hn, k1⟩
      · rw [e, rv, List.map_map]
        rfl
    have pf : putF (Str.ofString "rows") = fun (v : V) fs => putF (Str.ofString "rows") v fs := rfl
    have fs1 : putF (Str.ofString "variables") (V.int (n : Int)) [] = [(Str.ofString "variables", V.int (n : Int))] := rfl
    have fs2 : ∀ rb, putF (Str.ofString "rows") (V.ref rb) [(Str.ofString "variables", V.int (n : Int))] = [(Str.ofString "variables", V.int (n : Int)), (Str.ofString "rows", V.ref rb)] := fun rb => by
      simp [putF, show ¬ (Str.ofString "variables" = Str.ofString "rows") by decide +kernel]
    have fin2 : ∀ (H2 : Hp) (rb : Addr), SBut x H H2 → H2 x = some (.ins A.C_System dx [(Str.ofString "variables", V.int (n : Int))]) → SqT K H2 rb (rv rs) → RwOk K H2 rs → Q .non (upd H2 x (.ins A.C_System dx (putF (Str.ofString "rows") (V.ref rb) [(Str.ofString "variables", V.int (n : Int))]))) := fun H2 rb b e2 hrb ho2 => by
      rw [fs2]
      exact q _ rb (b.trans SBut.upd) ⟨upd_same, sqT_but SBut.upd e2 noTup_ins hrb, fun r hr' => CtT.but SBut.upd e2 noTup_ins (ho2 r hr')⟩
    have bx : ∀ H', Same H H' → SBut x H (upd H' x (.ins A.C_System dx [(Str.ofString "variables", V.int (n : Int))])) := fun H' s' => (Same.but s').trans SBut.upd
    have ox : ∀ H', Same H H' → RwOk K (upd H' x (.ins A.C_System dx [(Str.ofString "variables", V.int (n : Int))])) rs := fun H' s' r hr' => CtT.but SBut.upd (s' _ _ hx) noTup_ins ((hO r hr').same s')
    rcases hR with hL | hT
    · refine .inl ⟨⟨_, hL⟩, fun D hD => body D _ hD (fun H' s' e => ?_) _ ((walk_list (xs := rv rs)).mono (fun H' s => s.seq hL) (fun i H' v H'' _ _ y => y))⟩
      refine ⟨D, rs.map fun _ => true, rfl, by rw [List.map_map]; exact SqL.of e, ?_⟩
      rw [show (rs.map fun _ => true).all id = true by simp]
      refine ⟨true, rfl, ?_⟩
      rw [if_neg (by decide)]
      refine ⟨A.C_System, dx, [], s' _ _ hx, T.cl_System, T.na_System_variables, by decide, ?_⟩
      rw [fs1]
      have hL' : SqL K (upd H' x (.ins A.C_System dx [(Str.ofString "variables", V.int (n : Int))])) ra (rv rs) := by
        rcases s'.seq hL with (h | ⟨ob, h⟩) | h
        · exact .inl (.inl (by rw [upd_ne (ne_of h (s' _ _ hx) (fun z => by cases z))]; exact h))
        · exact .inl (.inr ⟨ob, by rw [upd_ne (ne_of h (s' _ _ hx) (fun z => by cases z))]; exact h⟩)
        · exact .inr h
      refine ⟨_, .inl ⟨hL', fun l nl => ?_⟩⟩
      have e3 : (upd (upd H' x (.ins A.C_System dx [(Str.ofString "variables", V.int (n : Int))])) l (.tup (rv rs))) x = some (.ins A.C_System dx [(Str.ofString "variables", V.int (n : Int))]) := by
        rw [upd_ne (fun z => by rw [← z, upd_same] at nl; cases nl), upd_same]
      refine ⟨A.C_System, dx, _, e3, T.cl_System, T.na_System_rows, by show 1 < 1000; decide, ?_⟩
      exact fin2 _ l ((bx H' s').trans (Same.but (same_upd nl))) e3 (SqT.of upd_same) ((ox H' s').same (same_upd nl))
    · refine .inr ⟨⟨_, hT⟩, fun D hD => body D _ hD (fun H' s' e => ?_) _ ((walk_tup (xs := rv rs)).mono (fun H' s => sameT s hT) (fun i H' v H'' _ _ y => y))⟩
      refine ⟨D, rs.map fun _ => true, rfl, by rw [List.map_map]; exact SqL.of e, ?_⟩
      rw [show (rs.map fun _ => true).all id = true by simp]
      refine ⟨true, rfl, ?_⟩
      rw [if_neg (by decide)]
      refine ⟨A.C_System, dx, [], s' _ _ hx, T.cl_System, T.na_System_variables, by decide, ?_⟩
      rw [fs1]
      refine ⟨_, .inr ⟨sqT_but SBut.upd (s' _ _ hx) noTup_ins (sameT s' hT), ?_⟩⟩
      refine ⟨A.C_System, dx, _, upd_same, T.cl_System, T.na_System_rows, by show 1 < 1000; decide, ?_⟩
      exact fin2 _ ra (bx H' s') upd_same (sqT_but SBut.upd (s' _ _ hx) noTup_ins (sameT s' hT)) (ox H' s')
end
local macro_rules | `(tactic| walk_at "wp") => `(tactic| simp only [tSeq, tAsg, gName, gTup, gCons, gNil, tVar, tC, tOp, tUn, rI, rI0, rU, tCB, tCons, tNil, tIfS, tRet, tRetN, tNext, tNever, test_eq, tB, tTup, tLst, tCall, tIf, tAndV, tOrV, tNotV, tNot, tAnd, tOr, rEq, rNe, scal_ii, scal_ss, scal_bb, dec_ii, dec_ss, dec_bb, for_eq, lc_eq, while_eq, tDrop, tYes, iList, iTup, iOr, tDNewN, tNSet, rNSet, sFld, tFld, tMake, tProp, tMeth, cxP, cxW, iStr, iRng1, iRng2, RZ.iZipA, L2.start, rIxL, rIxT, rIxS, rSlS, cxK, tSl, tPart, tNoPart, tBM, tBM0, rAppend, rExtend, rRepS, rGcd, s_ge_eq, s_ge_div, s_eq_ge, s_eq_div, s_div_ge, s_div_eq, gSub, rSetL, tAug, ipI, rAdd, rSub, tM1, tM0,
  List.map_cons, List.map_nil, List.length_cons, List.length_nil, List.cons_append, List.nil_append, List.append_nil, List.getElem?_cons_succ, List.getElem?_cons_zero, List.set_cons_succ, List.set_cons_zero, Nat.reduceAdd, Nat.reduceSub, List.replicate_succ, List.replicate_zero, wipe,
  Option.some.injEq, V.int.injEq, V.str.injEq, sgn_eq, V.ref.injEq, V.bl.injEq, exists_eq_left, exists_eq_left', exists_and_left, exists_eq_right, List.cons.injEq, and_true, true_and, ex_bl, ex_int, exists_const, Nat.zero_add, Int.toNat_natCast, Int.zero_add, and_assoc, reduceCtorEq, false_and, and_false, exists_false, or_false, false_or, eq_self, decide_true, decide_false, ite_true, ite_false, if_true, if_false, Bool.false_eq_true, Bool.not_true, Bool.not_false, ↓reduceIte])
/-! ### the reduced rows -/
/-- of one key: the same, but for a bound's constant -/
def sk (f u : Ct) : Bool := match f.k, u.k with
  | .ge, .ge => decide (f.c = u.c)
  | .eq, .eq => decide (f.c = u.c ∧ f.d = u.d)
  | .div m, .div m' => decide (m = m' ∧ f.c = u.c ∧ f.d = u.d)
  | _, _ => false
def ins : List Ct → Ct → List Ct
  | [], u => [u]
  | f :: r, u => if sk f u then (if u.d < f.d then u else f) :: r else f :: ins r u
def rrows (n : Nat) : List Ct → List Ct → List Ct
  | found, [] => found
  | found, t :: r => match red t with
    | none => rrows n found r
    | some u => if u = imp n then [u] else rrows n (ins found u) r
theorem sk_refl (u : Ct) : sk u u = true := by
  obtain ⟨k, c, d⟩ := u
  cases k <;> simp [sk]
theorem sk_k {f u : Ct} (h : sk f u = true) : f.k = u.k := by
  obtain ⟨k, c, d⟩ := f
  obtain ⟨k', c', d'⟩ := u
  cases k <;> cases k' <;> simp [sk] at h <;> first | rfl | (rw [h.1])
theorem sk_c {f u : Ct} (h : sk f u = true) : f.c = u.c := by
  obtain ⟨k, c, d⟩ := f
  obtain ⟨k', c', d'⟩ := u
  cases k <;> cases k' <;> simp [sk] at h <;> first | exact h | exact h.1 | exact h.2.1
theorem sk_symm {f u : Ct} (h : sk f u = true) : sk u f = true := by
  obtain ⟨k, c, d⟩ := f
  obtain ⟨k', c', d'⟩ := u
  cases k <;> cases k' <;> simp [sk] at h ⊢ <;> first | exact h.symm | exact ⟨h.1.symm, h.2.symm⟩ | exact ⟨h.1.symm, h.2.1.symm, h.2.2.symm⟩
theorem sk_trans {f u v : Ct} (h : sk f u = true) (g : sk u v = true) : sk f v = true := by
  obtain ⟨k, c, d⟩ := f
  obtain ⟨k', c', d'⟩ := u
  obtain ⟨k2, c2, d2⟩ := v
  cases k <;> cases k' <;> cases k2 <;> simp [sk] at h g ⊢ <;> first | exact h.trans g | exact ⟨h.1.trans g.1, h.2.trans g.2⟩ | exact ⟨h.1.trans g.1, h.2.1.trans g.2.1, h.2.2.trans g.2.2⟩
/-- where it is not a bound, one key says the same constraint -/
theorem sk_eq {f u : Ct} (h : sk f u = true) (hk : f.k ≠ .ge) : f = u := by
  obtain ⟨k, c, d⟩ := f
  obtain ⟨k', c', d'⟩ := u
  cases k with
  | ge => exact absurd rfl hk
  | eq =>
    cases k' <;> simp [sk] at h
    rw [h.1, h.2]
  | div m =>
    cases k' <;> simp [sk] at h
    rw [h.1, h.2.1, h.2.2]
theorem pick_sk {f u : Ct} (h : sk f u = true) : sk f (if u.d < f.d then u else f) = true := by
  split
  · exact h
  · exact sk_refl f
/-- both hold exactly if the one that is kept does -/
theorem pick_at {f u : Ct} (h : sk f u = true) (p : List Int) : (if u.d < f.d then u else f).at_ p = (f.at_ p && u.at_ p) := by
  by_cases hk : f.k = .ge
  · have hu : u.k = .ge := (sk_k h).symm.trans hk
    have hc := sk_c h
    obtain ⟨k, c, d⟩ := f
    obtain ⟨k', c', d'⟩ := u
    dsimp only at hk hu hc
    subst hk hu hc
    dsimp only
    by_cases hd : d' < d
    · rw [if_pos hd]
      simp only [Ct.at_, Kd.holds]
      generalize dot c p = v
      rw [← Bool.decide_and]
      exact decide_eq_decide.mpr (by omega)
    · rw [if_neg hd]
      simp only [Ct.at_, Kd.holds]
      generalize dot c p = v
      rw [← Bool.decide_and]
      exact decide_eq_decide.mpr (by omega)
  · have e := sk_eq h hk
    subst e
    rw [ite_self, Bool.and_self]
theorem ins_all (p : List Int) : ∀ (found : List Ct) (u : Ct), (ins found u).all (·.at_ p) = (found.all (·.at_ p) && u.at_ p)
  | [], u => by simp [ins]
  | f :: r, u => by
    rw [ins]
    split
    · rename_i h
      rw [List.all_cons, pick_at h, List.all_cons]
      cases f.at_ p <;> cases u.at_ p <;> cases r.all (·.at_ p) <;> rfl
    · rw [List.all_cons, ins_all p r u, List.all_cons, Bool.and_assoc]
theorem rrows_all (n : Nat) (p : List Int) : ∀ (rows found : List Ct), (∀ t ∈ rows, t.k.ok) → (rrows n found rows).all (·.at_ p) = (found.all (·.at_ p) && rows.all (·.at_ p))
  | [], found, _ => by simp [rrows]
  | t :: r, found, h => by
    have hr := red_at t (h t List.mem_cons_self) p
    rw [rrows, List.all_cons]
    cases hq : red t with
    | none =>
      rw [hq] at hr
      dsimp only
      rw [rrows_all n p r found fun x hx => h x (List.mem_cons_of_mem _ hx), ← show true = t.at_ p from hr, Bool.true_and]
    | some u =>
      rw [hq] at hr
      dsimp only
      have hu : u.at_ p = t.at_ p := hr
      by_cases hi : u = imp n
      · rw [if_pos hi, List.all_cons, List.all_nil, Bool.and_true, ← hu, hi, imp_at, Bool.false_and, Bool.and_false]
      · rw [if_neg hi, rrows_all n p r _ fun x hx => h x (List.mem_cons_of_mem _ hx), ins_all, hu, Bool.and_assoc]
theorem ins_mem {found : List Ct} {u x : Ct} : x ∈ ins found u → x ∈ found ∨ x = u := by
  induction found with
  | nil => intro h; exact .inr (List.mem_singleton.mp h)
  | cons f r ih =>
    rw [ins]
    split
    · intro h
      rcases List.mem_cons.mp h with h | h
      · split at h
        · exact .inr h
        · exact .inl (h ▸ List.mem_cons_self)
      · exact .inl (List.mem_cons_of_mem _ h)
    · intro h
      rcases List.mem_cons.mp h with h | h
      · exact .inl (h ▸ List.mem_cons_self)
      · rcases ih h with h | h
        · exact .inl (List.mem_cons_of_mem _ h)
        · exact .inr h
def NoTwo (l : List Ct) : Prop := l.Pairwise fun f g => sk f g = false
theorem sk_cong {f g u : Ct} (h : sk f g = true) : sk f u = sk g u := by
  cases h1 : sk f u <;> cases h2 : sk g u <;> try rfl
  · exact (Bool.false_ne_true (h1.symm.trans (sk_trans h h2))).elim
  · exact (Bool.false_ne_true (h2.symm.trans (sk_trans (sk_symm h) h1))).elim
theorem sk_cong2 {f g u : Ct} (h : sk f g = true) : sk u f = sk u g := by
  cases h1 : sk u f <;> cases h2 : sk u g <;> try rfl
  · exact (Bool.false_ne_true (h1.symm.trans (sk_trans h2 (sk_symm h)))).elim
  · exact (Bool.false_ne_true (h2.symm.trans (sk_trans h1 h))).elim
theorem ins_two {found : List Ct} {u : Ct} (h : NoTwo found) : NoTwo (ins found u) := by
  induction found with
  | nil => exact List.pairwise_singleton _ _
  | cons f r ih =>
    obtain ⟨h1, h2⟩ := List.pairwise_cons.mp h
    rw [ins]
    split
    · rename_i hs
      refine List.pairwise_cons.mpr ⟨fun g hg => ?_, h2⟩
      rw [← sk_cong (pick_sk hs)]
      exact h1 g hg
    · rename_i hs
      refine List.pairwise_cons.mpr ⟨fun g hg => ?_, ih h2⟩
      rcases ins_mem hg with hg | hg
      · exact h1 g hg
      · rw [hg]
        exact Bool.eq_false_iff.mpr hs
theorem rrows_two (n : Nat) : ∀ (rows found : List Ct), NoTwo found → NoTwo (rrows n found rows)
  | [], _, h => h
  | t :: r, found, h => by
    rw [rrows]
    cases red t with
    | none => exact rrows_two n r found h
    | some u =>
      dsimp only
      split
      · exact List.pairwise_singleton _ _
      · exact rrows_two n r _ (ins_two h)
/-- what holds of all reduced constraints -/
theorem rrows_mem (n : Nat) (P : Ct → Prop) : ∀ (rows found : List Ct), (∀ t ∈ rows, ∀ u, red t = some u → P u) → (∀ t ∈ found, P t) → ∀ t ∈ rrows n found rows, P t
  | [], _, _, h => h
  | t :: r, found, h, hf => by
    rw [rrows]
    cases hq : red t with
    | none => exact rrows_mem n P r found (fun x hx => h x (List.mem_cons_of_mem _ hx)) hf
    | some u =>
      have pu := h t List.mem_cons_self u hq
      dsimp only
      split
      · intro x hx
        rw [List.mem_singleton.mp hx]
        exact pu
      · refine rrows_mem n P r _ (fun x hx => h x (List.mem_cons_of_mem _ hx)) fun x hx => ?_
        rcases ins_mem hx with hx | hx
        · exact hf x hx
        · rw [hx]; exact pu
theorem ins_len (found : List Ct) (u : Ct) : (ins found u).length ≤ found.length + 1 := by
  induction found with
  | nil => exact Nat.le_refl _
  | cons f r ih =>
    rw [ins]
    split
    · simp
    · simp only [List.length_cons]; omega
theorem rrows_len (n : Nat) : ∀ (rows found : List Ct), (rrows n found rows).length ≤ found.length + rows.length + 1
  | [], _ => by rw [rrows]; omega
  | t :: r, found => by
    rw [rrows]
    have := rrows_len n r found
    cases red t with
    | none => simp only [List.length_cons]; omega
    | some u =>
      dsimp only
      split
      · simp
      · have h1 := rrows_len n r (ins found u)
        have h2 := ins_len found u
        simp only [List.length_cons]
        omega
/-- the place of a key -/
def fidx (u : Ct) : List Ct → Nat
  | [] => 0
  | f :: r => if sk f u then 0 else fidx u r + 1
theorem fidx_le (u : Ct) : ∀ l : List Ct, fidx u l ≤ l.length
  | [] => Nat.le_refl _
  | f :: r => by
    rw [fidx]
    split
    · exact Nat.zero_le _
    · have := fidx_le u r
      simp only [List.length_cons]
      omega
theorem ins_new (u : Ct) : ∀ l : List Ct, (∀ f ∈ l, sk f u = false) → ins l u = l ++ [u] ∧ fidx u l = l.length
  | [], _ => ⟨rfl, rfl⟩
  | f :: r, h => by
    have h0 := h f List.mem_cons_self
    obtain ⟨h1, h2⟩ := ins_new u r fun g hg => h g (List.mem_cons_of_mem _ hg)
    rw [ins, fidx, h0, if_neg Bool.false_ne_true, if_neg Bool.false_ne_true, h1, h2]
    exact ⟨rfl, rfl⟩
theorem ins_old (u : Ct) : ∀ (l : List Ct) (j : Nat) (f : Ct), l[j]? = some f → sk f u = true → NoTwo l → ins l u = l.set j (if u.d < f.d then u else f)
  | [], _, _, h, _, _ => by simp at h
  | g :: r, 0, f, h, hs, _ => by
    simp at h
    subst h
    rw [ins, if_pos hs]
    rfl
  | g :: r, j + 1, f, h, hs, hn => by
    obtain ⟨h1, h2⟩ := List.pairwise_cons.mp hn
    have hj : r[j]? = some f := by simpa using h
    have hg := h1 f (List.mem_of_getElem? hj)
    have hg' : sk g u = false := by rw [← sk_cong2 hs]; exact hg
    rw [ins, hg', if_neg Bool.false_ne_true, ins_old u r j f hj hs h2]
    rfl
/-- a constraint's key -/
def Ct.key (t : Ct) : NestedKey := match t.k with
  | .ge => .tup [.text "ge", .tup (t.c.map NestedKey.num)]
  | .eq => .tup [.text "eq", .tup (t.e.map NestedKey.num)]
  | .div m => .tup [.text "div", .num m, .tup (t.e.map NestedKey.num)]
theorem e_inj {c c' : List Int} {d d' : Int} (h : c ++ [d] = c' ++ [d']) : c = c' ∧ d = d' := by
  have := List.append_inj' h rfl
  exact ⟨this.1, by simpa using this.2⟩
theorem key_sk (f u : Ct) : decide (f.key = u.key) = sk f u := by
  have n1 : ¬ ((("ge" : Str)) = "eq") := by decide +kernel
  have n2 : ¬ ((("ge" : Str)) = "div") := by decide +kernel
  have n3 : ¬ ((("eq" : Str)) = "div") := by decide +kernel
  obtain ⟨k, c, d⟩ := f
  obtain ⟨k', c', d'⟩ := u
  cases k <;> cases k' <;> simp only [Ct.key, sk, Ct.e]
  · refine decide_eq_decide.mpr ⟨fun h => ?_, fun h => by rw [h]⟩
    injection h with h
    injection h with _ h
    injection h with h _
    injection h with h
    exact nums_inj h
  · refine decide_eq_false fun h => ?_
    injection h with h
    injection h with h _
    injection h with h
    exact n1 h
  · refine decide_eq_false fun h => ?_
    injection h with h
    injection h with h _
    injection h with h
    exact n2 h
  · refine decide_eq_false fun h => ?_
    injection h with h
    injection h with h _
    injection h with h
    exact n1 h.symm
  · refine decide_eq_decide.mpr ⟨fun h => ?_, fun h => by rw [h.1, h.2]⟩
    injection h with h
    injection h with _ h
    injection h with h _
    injection h with h
    exact e_inj (nums_inj h)
  · refine decide_eq_false fun h => ?_
    injection h with h
    injection h with h _
    injection h with h
    exact n3 h
  · refine decide_eq_false fun h => ?_
    injection h with h
    injection h with h _
    injection h with h
    exact n2 h.symm
  · refine decide_eq_false fun h => ?_
    injection h with h
    injection h with h _
    injection h with h
    exact n3 h.symm
  · refine decide_eq_decide.mpr ⟨fun h => ?_, fun h => by rw [h.1, h.2.1, h.2.2]⟩
    injection h with h
    injection h with _ h
    injection h with h1 h
    injection h1 with h1
    injection h with h _
    injection h with h
    exact ⟨h1, e_inj (nums_inj h)⟩

def fnd (u : Ct) : List Ct → Option Nat
  | [] => none
  | f :: r => if sk f u then some 0 else (fnd u r).map (· + 1)
theorem fnd_none (u : Ct) : ∀ l : List Ct, fnd u l = none → ∀ f ∈ l, sk f u = false
  | [], _, _, h => by cases h
  | g :: r, h, f, hf => by
    rw [fnd] at h
    by_cases hs : sk g u = true
    · rw [if_pos hs] at h
      cases h
    · rw [if_neg hs] at h
      rcases List.mem_cons.mp hf with rfl | hf
      · exact Bool.eq_false_iff.mpr hs
      · cases hq : fnd u r with
        | none => exact fnd_none u r hq f hf
        | some j => rw [hq] at h; cases h
theorem fnd_some (u : Ct) : ∀ (l : List Ct) (j : Nat), fnd u l = some j → ∃ f, l[j]? = some f ∧ sk f u = true
  | [], _, h => by cases h
  | g :: r, j, h => by
    rw [fnd] at h
    by_cases hs : sk g u = true
    · rw [if_pos hs] at h
      cases h
      exact ⟨g, rfl, hs⟩
    · rw [if_neg hs] at h
      cases hq : fnd u r with
      | none => rw [hq] at h; cases h
      | some i =>
        rw [hq] at h
        cases h
        obtain ⟨f, hf, hk⟩ := fnd_some u r i hq
        exact ⟨f, by simpa using hf, hk⟩
/-- the dict of places beside the rows found -/
def Al : Nat → List NE → List (Addr × Ct) → Prop
  | _, [], [] => True
  | o, x :: xs, f :: fs => x.1 = f.2.key ∧ x.2.2 = .int ((o : Nat) : Int) ∧ Al (o + 1) xs fs
  | _, _, _ => False
theorem al_look (u : Ct) : ∀ (xs : List NE) (fs : List (Addr × Ct)) (o : Nat), Al o xs fs → lookN xs u.key = (fnd u (fs.map (·.2))).map fun j => V.int ((o + j : Nat) : Int)
  | [], [], _, _ => rfl
  | [], _ :: _, _, h => h.elim
  | _ :: _, [], _, h => h.elim
  | x :: xs, f :: fs, o, h => by
    obtain ⟨h1, h2, h3⟩ := h
    have ih := al_look u xs fs (o + 1) h3
    unfold lookN at ih ⊢
    rw [List.find?_cons, List.map_cons, fnd, h1, key_sk]
    by_cases hs : sk f.2 u = true
    · rw [hs, if_pos rfl]
      show some x.2.2 = _
      rw [h2]
      rfl
    · rw [if_neg hs, Bool.eq_false_iff.mpr hs]
      dsimp only
      rw [ih]
      cases fnd u (fs.map (·.2)) with
      | none => rfl
      | some j =>
        show some (V.int ((o + 1 + j : Nat) : Int)) = some (V.int ((o + (j + 1) : Nat) : Int))
        rw [show o + 1 + j = o + (j + 1) by omega]
theorem al_len : ∀ (xs : List NE) (fs : List (Addr × Ct)) (o : Nat), Al o xs fs → xs.length = fs.length
  | [], [], _, _ => rfl
  | [], _ :: _, _, h => h.elim
  | _ :: _, [], _, h => h.elim
  | _ :: xs, _ :: fs, o, h => congrArg (· + 1) (al_len xs fs (o + 1) h.2.2)
theorem al_snoc (a b : Addr) (u : Ct) : ∀ (xs : List NE) (fs : List (Addr × Ct)) (o : Nat), Al o xs fs → Al o (xs ++ [(u.key, b, V.int ((o + fs.length : Nat) : Int))]) (fs ++ [(a, u)])
  | [], [], _, _ => ⟨rfl, rfl, trivial⟩
  | [], _ :: _, _, h => h.elim
  | _ :: _, [], _, h => h.elim
  | x :: xs, f :: fs, o, h => by
    have ih := al_snoc a b u xs fs (o + 1) h.2.2
    refine ⟨h.1, h.2.1, ?_⟩
    rw [show o + (f :: fs).length = o + 1 + fs.length by simp only [List.length_cons]; omega]
    exact ih
theorem al_set (a : Addr) (u : Ct) : ∀ (xs : List NE) (fs : List (Addr × Ct)) (o j : Nat) (f : Addr × Ct), Al o xs fs → fs[j]? = some f → u.key = f.2.key → Al o xs (fs.set j (a, u))
  | [], [], _, _, _, _, h, _ => by simp at h
  | [], _ :: _, _, _, _, h, _, _ => h.elim
  | _ :: _, [], _, _, _, h, _, _ => h.elim
  | x :: xs, g :: fs, o, 0, f, h, hj, hk => by
    simp at hj
    subst hj
    exact ⟨h.1.trans hk.symm, h.2.1, h.2.2⟩
  | x :: xs, g :: fs, o, j + 1, f, h, hj, hk => ⟨h.1, h.2.1, al_set a u xs fs (o + 1) j f h.2.2 (by simpa using hj) hk⟩
theorem lexLt_last (c : List Int) (x y : Int) : HT.lexLt (c ++ [x]) (c ++ [y]) = decide (x < y) := by
  induction c with
  | nil =>
    rw [List.nil_append, List.nil_append, HT.lexLt_cons]
    by_cases h : x = y
    · rw [if_pos h, HT.lexLt_nil_nil]
      exact (decide_eq_false (by omega)).symm
    · rw [if_neg h]
  | cons a c ih => rw [List.cons_append, List.cons_append, HT.lexLt_cons, if_pos rfl, ih]
theorem sk_key {f u : Ct} (h : sk f u = true) : f.key = u.key := by
  have := key_sk f u
  rw [h] at this
  exact of_decide_eq_true this
section
variable {w : World} {K : PySem.W.Frag} {mg : Str → Option Value} {base : Heap} {A : Ad}
def sp_reduced_rows (K : PySem.W.Frag) : Sp := fun vs H Q _ => ∃ (n : Nat) (ra : Addr) (rs : List Rw), vs = [.int (n : Int), .ref ra] ∧ SqT K H ra (rv rs) ∧ RwOk K H rs ∧ (∀ r ∈ rs, Wf n r.2) ∧ n ≤ 90 ∧ rs.length ≤ 5000 ∧
  ∀ H' rb ss, Same H H' → SqT K H' rb (rv ss) → RwOk K H' ss → cts ss = rrows n [] (cts rs) → Q (.ref rb) H'
def sp_System_reduced (A : Ad) (K : PySem.W.Frag) : Sp := fun vs H Q _ => ∃ (a dx ra : Addr) (n : Nat) (rs : List Rw), vs = [.ref a] ∧ Sy K A.C_System H a dx ra n rs ∧ (∀ r ∈ rs, Wf n r.2) ∧ n ≤ 90 ∧ rs.length ≤ 5000 ∧
  ∀ H' b dy rb ss, Same H H' → Sy K A.C_System H' b dy rb n ss → cts ss = rrows n [] (cts rs) → Q (.ref b) H'
def sp_System_is_impossible (A : Ad) (K : PySem.W.Frag) : Sp := fun vs H Q _ => ∃ (a dx ra : Addr) (n : Nat) (rs : List Rw), vs = [.ref a] ∧ Sy K A.C_System H a dx ra n rs ∧ n ≤ 90 ∧ ∀ H', Same H H' → Q (.bl (decide (cts rs = [imp n]))) H'
/-! ### constraints compared as data -/
theorem eqv_ints : ∀ e f : List Int, PyData.eqvAll (e.map PyData.int) (f.map PyData.int) = decide (e = f)
  | [], [] => rfl
  | [], _ :: _ => rfl
  | _ :: _, [] => rfl
  | x :: e, y :: f => by
    rw [List.map_cons, List.map_cons, PyData.eqvAll, eqv_ints e f, PyData.eqv]
    by_cases h : x = y
    · subst h
      by_cases h2 : e = f
      · subst h2
        simp
      · simp [h2]
    · simp [h]
theorem eqv_ct (t u : Ct) : PyData.eqv t.pd u.pd = decide (t = u) := by
  have n1 : ((("ge" : Str)) == ("eq" : Str)) = false := by decide +kernel
  have n2 : ((("ge" : Str)) == ("div" : Str)) = false := by decide +kernel
  have n3 : ((("eq" : Str)) == ("div" : Str)) = false := by decide +kernel
  have n4 : ((("eq" : Str)) == ("ge" : Str)) = false := by decide +kernel
  have n5 : ((("div" : Str)) == ("ge" : Str)) = false := by decide +kernel
  have n6 : ((("div" : Str)) == ("eq" : Str)) = false := by decide +kernel
  have ee : ∀ (c c' : List Int) (d d' : Int), decide (c ++ [d] = c' ++ [d']) = decide (c = c' ∧ d = d') := fun c c' d d' => decide_eq_decide.mpr ⟨e_inj, fun h => by rw [h.1, h.2]⟩
  obtain ⟨k, c, d⟩ := t
  obtain ⟨k', c', d'⟩ := u
  cases k <;> cases k' <;> simp only [Ct.pd, Kd.pd, Ct.e, PyData.eqv, PyData.eqvAll, eqv_ints, ee, n1, n2, n3, n4, n5, n6, Bool.false_and, Bool.and_true, beq_self_eq_true, Bool.true_and, Bool.and_false]
  all_goals first
    | (refine decide_eq_decide.mpr ⟨fun h => by rw [h.1, h.2], fun h => by injection h with _ h1 h2; exact ⟨h1, h2⟩⟩)
    | (symm; refine decide_eq_false fun h => ?_; injection h with h; cases h)
    | skip
  rename_i m m'
  by_cases hm : m = m'
  · subst hm
    rw [beq_self_eq_true, Bool.true_and]
    exact decide_eq_decide.mpr ⟨fun h => by rw [h.1, h.2], fun h => by injection h with _ h1 h2; exact ⟨h1, h2⟩⟩
  · rw [beq_eq_false_iff_ne.mpr hm, Bool.false_and]
    symm
    refine decide_eq_false fun h => hm ?_
    injection h with h
    injection h
theorem eqv_cts : ∀ ts us : List Ct, PyData.eqvAll (ts.map Ct.pd) (us.map Ct.pd) = decide (ts = us)
  | [], [] => rfl
  | [], _ :: _ => rfl
  | _ :: _, [] => rfl
  | x :: e, y :: f => by
    rw [List.map_cons, List.map_cons, PyData.eqvAll, eqv_cts e f, eqv_ct]
    by_cases h : x = y
    · subst h
      by_cases h2 : e = f
      · subst h2
        simp
      · simp [h2]
    · simp [h]
def ctsD (ts : List Ct) : PyData := .tuple (ts.map Ct.pd)
theorem eqv_ctsD (ts us : List Ct) : PyData.eqv (ctsD ts) (ctsD us) = decide (ts = us) := by rw [ctsD, ctsD, PyData.eqv, eqv_cts]
theorem lay_cts : ∀ ts : List Ct, PyData.canLayAll0 (ts.map Ct.pd) = true
  | [] => rfl
  | x :: r => by rw [List.map_cons, PyData.canLayAll0, lay_ct, lay_cts r]; rfl
theorem depth_cts : ∀ ts : List Ct, PyData.depthAll (ts.map Ct.pd) ≤ 2
  | [] => by decide
  | x :: r => by
    rw [List.map_cons, PyData.depthAll]
    have := depth_ct x
    have := depth_cts r
    omega
theorem shaped_ctsD (ts : List Ct) : SeqAt.shaped (ctsD ts) = true := by
  unfold SeqAt.shaped ctsD
  rw [PyData.canLay0, lay_cts, PyData.depth, decide_eq_true (by have := depth_cts ts; omega)]
  rfl
theorem dp_rows {K : PySem.W.Frag} {H : Hp} : ∀ {rs : List Rw}, RwOk K H rs → DpAll K H (rv rs) ((cts rs).map Ct.pd)
  | [], _ => .nil
  | r :: rs, h => .cons (dp_ct (h r List.mem_cons_self)) (dp_rows fun x hx => h x (List.mem_cons_of_mem _ hx))
theorem dp_rowsT {K : PySem.W.Frag} {H : Hp} {a : Addr} {rs : List Rw} (hT : SqT K H a (rv rs)) (h : RwOk K H rs) : Dp K H (.ref a) (ctsD (cts rs)) := .tup hT (dp_rows h)
/-! ### keys in memory -/
theorem nk_ints {K : PySem.W.Frag} {H : Hp} : ∀ e : List Int, NkAll K H (e.map V.int) (e.map NestedKey.num)
  | [] => .nil
  | x :: r => .cons (.int x) (nk_ints r)
theorem key_depth (t : Ct) : t.key.depth ≤ 8 := by
  obtain ⟨k, c, d⟩ := t
  cases k <;> simp only [Ct.key, NestedKey.depth, NestedKey.depthAll, depth_nums] <;> decide
theorem Nk.but {K : PySem.W.Frag} {x : Addr} {H H' : Hp} {o : HO} (s : SBut x H H') (hx : H x = some o) (no : NoTup o) {v : V} {k : NestedKey} (h : Nk K H v k) : Nk K H' v k := by
  have : ∀ (k : NestedKey), (∀ v, Nk K H v k → Nk K H' v k) := by
    intro k
    refine NestedKey.rec (motive_1 := fun k => ∀ v, Nk K H v k → Nk K H' v k) (motive_2 := fun ks => ∀ vs, NkAll K H vs ks → NkAll K H' vs ks) ?_ ?_ ?_ ?_ ?_ ?_ k
    · intro v h; cases h; exact .non
    · intro i v h; cases h; exact .int i
    · intro z v h; cases h; exact .str z
    · intro ks ih v h
      cases h with
      | tup hT hA => exact .tup (sqT_but s hx no hT) (ih _ hA)
    · intro vs h; cases h; exact .nil
    · intro k ks i1 i2 vs h
      cases h with
      | cons h1 h2 => exact .cons (i1 _ h1) (i2 _ h2)
  exact this k v h
theorem nk_ct {K : PySem.W.Frag} {H : Hp} {x : Addr} {t : Ct} (hk : t.k ≠ .ge) (h : CtT K H x t) : Nk K H (.ref x) t.key := by
  obtain ⟨a, h1, h2⟩ := h
  have ne : Nk K H (.ref a) (.tup (t.e.map NestedKey.num)) := .tup h2 (nk_ints t.e)
  obtain ⟨k, c, d⟩ := t
  cases k with
  | ge => exact absurd rfl hk
  | eq => exact .tup h1 (.cons (.str _) (.cons ne .nil))
  | div m => exact .tup h1 (.cons (.str _) (.cons (.int m) (.cons ne .nil)))
theorem ok_reduced_rows (T : Txt K mg A) : FnOk P w K mg base CX0 4 A.f_reduced_rows A.d_reduced_rows ["variables", "rows"] (sp_reduced_rows K) := by
  have G_reduced_constraint := ok_reduced_constraint (w := w) (base := base) T
  have G_impossible := ok_impossible (w := w) (base := base) T
  refine T.F_reduced_rows.ok sc_reduced_rows (fun vs H Q E h => ?_) (fun cdv A' outer s H vs Q E hr h => ?_)
  · obtain ⟨n, ra, rs, rfl, _⟩ := h
    rfl
  · obtain ⟨n, ra, rs, rfl, hT, hO, hW, hn, hl, q⟩ := h
    -- the key at hand: its place, and the constraint put there
    have ⟨R, hR, kR⟩ : ∃ R, PSs (cxOf CX0 P w K mg base ["variables", "rows", "found", "places", "row", "reduced", "key", "place"] "reduced_rows" (defScope s_reduced_rows) A.f_reduced_rows cdv A' outer s H E).nox ((ifB (stAt (forB (stAt (defBody s_reduced_rows) 2)) 2)).drop 1) R ∧
        ∀ (D : Ends) (H1 : Hp) (fl pl y kb : Addr) (u : Ct) (fs : List Rw) (xs : List NE) (v4 v7 : Option V),
          Same H H1 → H fl = none → H pl = none → fl ≠ pl → CtT K H1 y u → Nk K H1 (.ref kb) u.key → H1 fl = some (.lst (rv fs)) → RwOk K H1 fs → H1 pl = some (NDct P w pl xs) → KeysIn K H1 xs → Al 0 xs fs → NoTwo (cts fs) → fs.length ≤ 5000 →
          (∀ H2 gs zs v7', Same H H2 → H2 fl = some (.lst (rv gs)) → RwOk K H2 gs → H2 pl = some (NDct P w pl zs) → KeysIn K H2 zs → Al 0 zs gs → cts gs = ins (cts fs) u → (∀ g ∈ gs, g ∈ fs ∨ g.2 = u) → gs.length ≤ fs.length + 1 →
            D.nx [some (.int (n : Int)), some (.ref ra), some (.ref fl), some (.ref pl), v4, some (.ref y), some (.ref kb), v7'] H2) →
          R D [some (.int (n : Int)), some (.ref ra), some (.ref fl), some (.ref pl), v4, some (.ref y), some (.ref kb), v7] H1 := by
      refine ⟨_, (pss_cons (ps_set (i := 7) sc_reduced_rows.nd rfl (Or.inl rfl) (pe_nset (pv 3) (pv 6) (pe_callB call_len_seq (by rfl) T.b_len (by decide +kernel) (pa_cons (pv 2) pa_nil)) ⟨by rfl, by rfl, by rfl, by rfl⟩ (units9 hr))) 
    (pss_one (ps_if (pt_cmpR op_eq (pv 7) (pe_callB call_len_seq (by rfl) T.b_len (by decide +kernel) (pa_cons (pv 2) pa_nil)) (nomark _)) 
      (pss_one (ps_expr (pe_bm PySem.F.plainAttrs_list PySem.F.slot_list_append PySem.F.type_list_append mt_append (pv 2) (pa_cons (pv 5) pa_nil)))) 
      (pss_one (ps_asg (pe_callB (call_minQ rfl hr.units) (by rfl) T.b_min (by decide +kernel) (pa_cons (pe_ix ix_list (pv 2) (pv 7) (fun _ _ => rfl)) (pa_cons (pv 5) pa_nil))) (pg_sub (pv 2) (pv 7) set_list)))))), fun D H1 fl pl y kb u fs xs v4 v7 sA nfl npl nfp hu hk efl ho epl hks al two hf k => ?_⟩
      walk_at "wp"
      have lk := al_look u xs fs 0 al
      have xl := al_len xs fs 0 al
      refine ⟨⟨xs, epl⟩, _, .inl (SqL.of efl), xs, epl, hks, u.key, hk, key_depth u, by rw [xl]; exact smallM (by omega), ?_, ?_⟩
      · intro v hv
        rw [lk] at hv
        cases hq : fnd u (fs.map (·.2)) with
        | none => rw [hq] at hv; cases hv
        | some j =>
          rw [hq] at hv
          cases hv
          obtain ⟨f, hf', hs⟩ := fnd_some u _ j hq
          rw [List.getElem?_map] at hf'
          cases hfj : fs[j]? with
          | none => rw [hfj] at hf'; cases hf'
          | some r =>
            rw [hfj] at hf'
            cases hf'
            have hj : j < fs.length := (List.getElem?_eq_some_iff.mp hfj).1
            have hsk : sk r.2 u = true := hs
            refine ⟨_, .inl (SqL.of efl), rfl, ?_⟩
            rw [if_neg (by rw [rv, List.length_map, decide_eq_true_eq, V.int.injEq]; omega)]
            dsimp only
            rw [Nat.zero_add]
            have rok := ho r (List.mem_of_getElem? hfj)
            have ats : atI (rv fs) (j : Int) = some (.ref r.1) := atI_nat (by rw [rv, List.getElem?_map, hfj]; rfl)
            have ixj : ixN (rv fs).length (j : Int) = some j := by
              have hl : (rv fs).length = fs.length := by rw [rv, List.length_map]
              unfold ixN
              rw [hl]
              simp [hj]
            refine ⟨_, _, rfl, SqL.of efl, _, ats, ?_⟩
            have kr : r.2.key = u.key := sk_key hsk
            have old := ins_old u (cts fs) j r.2 (by rw [cts, List.getElem?_map, hfj]; rfl) hsk two
            -- what stands behind the store
            have fin : ∀ (z : Addr) (c : Ct), CtT K H1 z c → c = (if u.d < r.2.d then u else r.2) → c.key = u.key → ((z, c) = r ∨ c = u) → D.nx [some (.int (n : Int)), some (.ref ra), some (.ref fl), some (.ref pl), v4, some (.ref y), some (.ref kb), some (.int ((j : Nat) : Int))] (upd H1 fl (.lst ((rv fs).set j (.ref z)))) := fun z c hc ec kc hzc => by
              have sb : SBut fl H1 (upd H1 fl (.lst ((rv fs).set j (.ref z)))) := SBut.upd
              have gl : (rv fs).set j (.ref z) = rv (fs.set j (z, c)) := by
                rw [rv, rv, List.map_set]
              refine k _ (fs.set j (z, c)) xs _ (SBut.same sb sA nfl) (by rw [upd_same, gl]) (fun g hg => ?_) (sb _ _ (Ne.symm nfp) epl) (fun x hx => ⟨Nk.but sb efl noTup_lst (hks x hx).1, (hks x hx).2⟩) (al_set z c xs fs 0 j r al hfj (kc.trans kr.symm)) ?_ (fun g hg => ?_) (by rw [List.length_set]; omega)
              · rcases List.mem_or_eq_of_mem_set hg with hg | rfl
                · exact (ho g hg).but sb efl noTup_lst
                · exact hc.but sb efl noTup_lst
              · rw [old, cts, List.map_set, ← ec]
                rfl
              · rcases List.mem_or_eq_of_mem_set hg with hg | rfl
                · exact .inl hg
                · rcases hzc with e | e
                  · rw [e]
                    exact .inl (List.mem_of_getElem? hfj)
                  · exact .inr e
            by_cases hge : r.2.k = .ge
            · have uge : u.k = .ge := (sk_k hsk).symm.trans hge
              obtain ⟨p1, a1, a2⟩ := rok
              obtain ⟨p2, b1, b2⟩ := hu
              have rok : CtT K H1 r.1 r.2 := ⟨p1, a1, a2⟩
              have hu : CtT K H1 y u := ⟨p2, b1, b2⟩
              rw [hge] at a1
              rw [uge] at b1
              refine .inl ⟨r.1, y, p1, p2, Str.ofString "ge", r.2.e, u.e, rfl, a1, b1, a2, b2, ?_⟩
              refine ⟨_, _, rfl, efl, _, ixj, ?_⟩
              rw [Ct.e, Ct.e, sk_c hsk, lexLt_last]
              by_cases hd : u.d < r.2.d
              · rw [if_pos (decide_eq_true hd)]
                exact fin y u hu (if_pos hd).symm rfl (.inr rfl)
              · rw [if_neg (by rw [decide_eq_true_eq]; exact hd)]
                exact fin r.1 r.2 rok (if_neg hd).symm kr (.inl rfl)
            · have e := sk_eq hsk hge
              obtain ⟨ks, ek⟩ : ∃ ks, u.key = .tup ks := by
                obtain ⟨uk, uc, ud⟩ := u
                cases uk <;> exact ⟨_, rfl⟩
              have dk : NestedKey.depthAll ks ≤ 8 := by
                have hd := key_depth u
                rw [ek, NestedKey.depth] at hd
                omega
              have ka := nk_ct hge rok
              have kb' := nk_ct (fun z => hge (e ▸ z)) hu
              rw [kr, ek] at ka
              rw [ek] at kb'
              refine .inr ⟨r.1, y, ks, rfl, ka, kb', dk, ?_⟩
              refine ⟨_, _, rfl, efl, _, ixj, ?_⟩
              exact fin r.1 r.2 rok (by rw [e]; simp) kr (.inl rfl)
      · intro hv
        rw [lk] at hv
        have hq : fnd u (fs.map (·.2)) = none := by
          cases hq : fnd u (fs.map (·.2)) with
          | none => rfl
          | some j => rw [hq] at hv; cases hv
        have hno := fnd_none u _ hq
        have sb : SBut pl H1 (upd H1 pl (NDct P w pl (xs ++ [(u.key, kb, V.int ((rv fs).length : Int))]))) := SBut.upd
        have efl2 := sb _ _ nfp efl
        refine ⟨_, .inl (SqL.of efl2), ?_⟩
        rw [if_pos (decide_eq_true rfl)]
        refine ⟨.inl ⟨rfl, _, SqL.of efl2⟩, _, efl2, by rw [rv, List.length_map]; exact smallM (by omega), ?_⟩
        have sb2 : SBut fl (upd H1 pl (NDct P w pl (xs ++ [(u.key, kb, V.int ((rv fs).length : Int))]))) (upd (upd H1 pl (NDct P w pl (xs ++ [(u.key, kb, V.int ((rv fs).length : Int))]))) fl (.lst (rv fs ++ [V.ref y]))) := SBut.upd
        have eg : rv fs ++ [V.ref y] = rv (fs ++ [(y, u)]) := by rw [rv, rv, List.map_append]; rfl
        obtain ⟨en, _⟩ := ins_new u (cts fs) hno
        refine k _ (fs ++ [(y, u)]) (xs ++ [(u.key, kb, V.int ((rv fs).length : Int))]) _ (SBut.same sb2 (SBut.same sb sA npl) nfl) (by rw [upd_same, eg]) (fun g hg => ?_) (by rw [upd_ne (Ne.symm nfp), upd_same]) (fun x hx => ?_) ?_ ?_ (fun g hg => ?_) (by rw [List.length_append]; exact Nat.le_refl _)
        · have two' : ∀ c, CtT K H1 g.1 c → CtT K _ g.1 c := fun c hc => (hc.but sb epl noTup_ext).but sb2 efl2 noTup_lst
          rcases List.mem_append.mp hg with hg | hg
          · exact two' _ (ho g hg)
          · rw [List.mem_singleton.mp hg] at two' ⊢
            exact two' _ hu
        · have two' : ∀ v kk, Nk K H1 v kk → Nk K _ v kk := fun v kk hk => Nk.but sb2 efl2 noTup_lst (Nk.but sb epl noTup_ext hk)
          rcases List.mem_append.mp hx with hx | hx
          · exact ⟨two' _ _ (hks x hx).1, (hks x hx).2⟩
          · rw [List.mem_singleton.mp hx]
            exact ⟨two' _ _ hk, key_depth u⟩
        · have := al_snoc y kb u xs fs 0 al
          rw [Nat.zero_add] at this
          rw [rv, List.length_map]
          exact this
        · rw [en, cts, List.map_append]
          rfl
        · rcases List.mem_append.mp hg with hg | hg
          · exact .inl hg
          · exact .inr (by rw [List.mem_singleton.mp hg])
    refine ⟨_, (pss_cons (ps_set (i := 2) sc_reduced_rows.nd rfl (Or.inl rfl) (pe_lst pa_nil)) 
    (pss_cons (ps_set (i := 3) sc_reduced_rows.nd rfl (Or.inl rfl) pe_dnewN) 
    (pss_cons (ps_for PassesOwn.never rfl (pi_tup (pv 1)) (pg_name (i := 4) sc_reduced_rows.nd rfl (Or.inl rfl)) 
      (pss_cons (ps_set (i := 5) sc_reduced_rows.nd rfl (Or.inl rfl) (pe_call G_reduced_constraint hr (by rfl) T.g_reduced_constraint T.F_reduced_constraint.kp T.B_reduced_constraint .nil pass0 (pa_cons (pv 4) pa_nil))) 
      (pss_cons (ps_if (pt_cmpR (op_eqD hr.units) (pv 5) (pe_call G_impossible (hr.mono (by decide)) (by rfl) T.g_impossible T.F_impossible.kp T.B_impossible .nil pass0 (pa_cons (pv 0) pa_nil)) (nomark _)) 
        (pss_one (ps_ret (pe_tup (pa_cons (pv 5) pa_nil)))) pss_nil) 
      (pss_one (ps_if (pt_cmpR op_notN (pv 5) pe_non (nomark _)) 
        (pss_cons (ps_set (i := 6) sc_reduced_rows.nd rfl (Or.inl rfl) (pe_ifExp (pt_cmpR op_eq (pe_ix ix_tup (pv 5) pe_int (fun _ _ => rfl)) pe_str (nomark _)) (pe_tup (pa_cons pe_str (pa_cons (pe_slice sl_tupA (pe_ix ix_tup (pv 5) pe_int (fun _ _ => rfl)) po_none (po_some (pe_un un_neg pe_int))) pa_nil))) (pv 5))) hR) pss_nil))))) 
    (pss_one (ps_ret (pe_callTy call_tuple_of (by rfl) T.b_tuple (by decide +kernel) (pa_cons (pv 2) pa_nil))))))), ?_⟩
    walk_at "wp"
    refine ⟨Nat.zero_le _, fun fl nfl pl npl => ⟨⟨_, sameT ((same_upd nfl).trans (same_upd npl)) hT⟩, ?_⟩⟩
    have npf : fl ≠ pl := fun z => by rw [← z, upd_same] at npl; cases npl
    have npl0 : H pl = none := by rw [← npl, upd_ne (Ne.symm npf)]
    have s0 : Same H (upd (upd H fl (.lst [])) pl (NDct P w pl [])) := (same_upd nfl).trans (same_upd npl)
    obtain ⟨Pv, hPv⟩ : ∃ Pv : Nat → St → Hp → Prop, ∀ i σ H', Pv i σ H' ↔ ∃ (fs : List Rw) (xs : List NE) (v4 v5 v6 v7 : Option V), σ = [some (.int (n : Int)), some (.ref ra), some (.ref fl), some (.ref pl), v4, v5, v6, v7] ∧ Same H H' ∧ H' fl = some (.lst (rv fs)) ∧ RwOk K H' fs ∧ H' pl = some (NDct P w pl xs) ∧ KeysIn K H' xs ∧ Al 0 xs fs ∧
      NoTwo (cts fs) ∧ fs.length ≤ i ∧ (∀ f ∈ fs, Wf n f.2) ∧ rrows n (cts fs) ((cts rs).drop i) = rrows n [] (cts rs) := ⟨_, fun _ _ _ => Iff.rfl⟩
    refine loop_it (walk_tup (xs := rv rs)) Pv ((hPv _ _ _).mpr ⟨[], [], _, _, _, _, rfl, s0, by rw [upd_ne npf, upd_same]; rfl, (fun r hr' => by cases hr'), upd_same, (fun x hx => by cases hx), trivial, List.Pairwise.nil, Nat.zero_le _, (fun f hf => by cases hf), by rw [List.drop_zero]; rfl⟩) (fun i σ H' _ pw => by
      obtain ⟨fs, xs, v4, v5, v6, v7, rfl, s1, _⟩ := (hPv _ _ _).mp pw
      exact sameT s1 hT) ?_ ?_
    · intro i x σ H1 H2 hi pw yy
      obtain ⟨fs, xs, v4, v5, v6, v7, rfl, s1, efl, ho, epl, hks, al, two, fl_, wf, er⟩ := (hPv _ _ _).mp pw
      obtain ⟨rfl, e⟩ := yat_at yy
      rw [rv, List.length_map] at hi
      rw [rv, List.getElem?_map, List.getElem?_eq_getElem hi] at e
      cases e
      have hmem : rs[i] ∈ rs := List.getElem_mem hi
      generalize hr0 : rs[i] = r at hmem
      have hdrop : (cts rs).drop i = r.2 :: (cts rs).drop (i + 1) := by
        rw [List.drop_eq_getElem_cons (by rw [cts, List.length_map]; exact hi)]
        congr 1
        rw [← hr0]
        simp [cts]
      rw [hdrop, rrows] at er
      have wr := hW r hmem
      walk_at "wp"
      refine ⟨r.1, r.2, rfl, (hO r hmem).same s1, wr.ok, wr.nz, fun H3 v s3 hR3 => ?_⟩
      refine ⟨n, rfl, hn, fun H4 z s4 hz => ?_⟩
      have s14 := s1.trans (s3.trans s4)
      have s34 := s3.trans s4
      cases hq : red r.2 with
      | none =>
        rw [hq] at hR3 er
        cases hR3
        refine ⟨.none, (imp n).pd, .non, dp_ct hz, rfl, shaped_ct _, ?_⟩
        rw [show PyData.eqv .none (imp n).pd = false from rfl]
        refine ⟨false, rfl, ?_⟩
        walk_at "wp"
        exact (hPv _ _ _).mpr ⟨fs, xs, _, _, _, _, rfl, s14, s34 _ _ efl, ho.same s34, s34 _ _ epl, hks.same s34, al, two, by omega, wf, er⟩
      | some u =>
        rw [hq] at hR3 er
        obtain ⟨y, rfl, hu3⟩ := hR3
        have hu := hu3.same s4
        refine ⟨u.pd, (imp n).pd, dp_ct hu, dp_ct hz, shaped_ct _, shaped_ct _, ?_⟩
        rw [eqv_ct]
        refine ⟨decide (u = imp n), rfl, ?_⟩
        dsimp only at er
        by_cases hi0 : u = imp n
        · rw [if_pos hi0] at er
          rw [if_pos (decide_eq_true hi0)]
          refine ⟨by decide, fun p np => ?_⟩
          exact q _ p [(y, u)] (s14.trans (same_upd np)) (SqT.of upd_same) (fun g hg => by rw [List.mem_singleton.mp hg]; exact hu.same (same_upd np)) (by rw [← er]; rfl)
        · rw [if_neg hi0] at er
          rw [if_neg (by rw [decide_eq_true_eq]; exact hi0)]
          walk_at "wp"
          have goal : ∀ (H5 : Hp) (kb : Addr) (v7' : Option V) (D : Ends), Same H4 H5 → Nk K H5 (.ref kb) u.key → (∀ σ H', Pv (i + 1) σ H' → D.nx σ H') → R D [some (.int (n : Int)), some (.ref ra), some (.ref fl), some (.ref pl), some (.ref r.1), some (.ref y), some (.ref kb), v7'] H5 := fun H5 kb v7' D s5 hk hD => by
            have s35 := s34.trans s5
            refine kR D H5 fl pl y kb u fs xs _ _ (s14.trans s5) nfl npl0 npf (hu.same s5) hk (s35 _ _ efl) (ho.same s35) (s35 _ _ epl) (hks.same s35) al two (by omega) fun H6 gs zs v7'' s6 e1 o1 e2 k2 al2 ei gm gl => hD _ _ ((hPv _ _ _).mpr ⟨gs, zs, _, _, _, _, rfl, s6, e1, o1, e2, k2, al2, by rw [ei]; exact ins_two two, by omega, fun g hg => ?_, by rw [ei]; exact er⟩)
            rcases gm g hg with h | h
            · exact wf g h
            · rw [h]
              exact wr.red hq
          obtain ⟨ea, h1, h2⟩ := hu
          have hu : CtT K H4 y u := ⟨ea, h1, h2⟩
          refine ⟨_, h1, ?_⟩
          by_cases hge : u.k = .ge
          · rw [hge] at h1 ⊢
            refine ⟨_, rfl, rfl, ?_⟩
            walk_at "wp"
            refine ⟨_, h1, _, rfl, ?_⟩
            rw [Ct.e, List.map_append] at h2
            refine sl_init h2 fun H5 kc s5 hkc => ⟨by decide, fun kb nkb => ?_⟩
            refine goal _ kb _ _ (s5.trans (same_upd nkb)) ?_ (fun _ _ h => h)
            have : u.key = .tup [.text "ge", .tup (u.c.map NestedKey.num)] := by
              obtain ⟨k, c, d⟩ := u
              dsimp only at hge
              subst hge
              rfl
            rw [this]
            exact .tup (SqT.of upd_same) (.cons (.str _) (.cons (.tup (sameT (same_upd nkb) hkc) (nk_ints _)) .nil))
          · have n1 : atI (u.k.v ea) 0 = some (.str (match u.k with | .ge => Str.ofString "ge" | .eq => Str.ofString "eq" | .div _ => Str.ofString "div")) := by cases u.k <;> rfl
            refine ⟨_, n1, rfl, ?_⟩
            have n2 : decide (V.str (match u.k with | .ge => Str.ofString "ge" | .eq => Str.ofString "eq" | .div _ => Str.ofString "div") = V.str (Str.ofString "ge")) = false := by
              cases hk : u.k with
              | ge => exact absurd hk hge
              | eq => exact (dec_ss (Str.ofString "eq") (Str.ofString "ge")).trans (decide_eq_false (by decide +kernel))
              | div m => exact (dec_ss (Str.ofString "div") (Str.ofString "ge")).trans (decide_eq_false (by decide +kernel))
            rw [n2]
            walk_at "wp"
            exact goal _ y _ _ (Same.refl _) (nk_ct hge hu) (fun _ _ h => h)
    · intro σ H1 pw
      obtain ⟨fs, xs, v4, v5, v6, v7, rfl, s1, efl, ho, epl, hks, al, two, fl_, wf, er⟩ := (hPv _ _ _).mp pw
      walk_at "wp"
      rw [rv, List.length_map, List.drop_of_length_le (by rw [cts, List.length_map]; exact Nat.le_refl _), rrows] at er
      exact ⟨_, .inl ⟨SqL.of efl, fun p np => q _ p fs (s1.trans (same_upd np)) (SqT.of upd_same) (ho.same (same_upd np)) er⟩⟩
theorem ok_System_is_impossible (T : Txt K mg A) : FnOk P w K mg base CX0 2 A.f_System_is_impossible A.d_System_is_impossible ["self"] (sp_System_is_impossible A K) := by
  have G_impossible := ok_impossible (w := w) (base := base) T
  refine T.F_System_is_impossible.ok sc_System_is_impossible (fun vs H Q E h => ?_) (fun cdv A' outer s H vs Q E hr h => ?_)
  · obtain ⟨a, dx, ra, n, rs, rfl, _⟩ := h
    rfl
  · obtain ⟨a, dx, ra, n, rs, rfl, hS, hn, q⟩ := h
    refine ⟨_, (pss_one (ps_ret (pe_cmpR (op_eqD hr.units) (pe_fld (pv 0) rfl) (pe_tup (pa_cons (pe_call G_impossible hr (by rfl) T.g_impossible T.F_impossible.kp T.B_impossible .nil pass0 (pa_cons (pe_fld (pv 0) rfl) pa_nil)) pa_nil)) (nomark _)))), ?_⟩
    walk_at "wp"
    refine ⟨_, dx, _, hS.ob, T.cl_System, T.na_System_rows, _, look_rows, _, dx, _, hS.ob, T.cl_System, T.na_System_variables, _, look_var, n, rfl, hn, fun H1 x s1 hx => ⟨by decide, fun p np => ?_⟩⟩
    have s2 := s1.trans (same_upd (o := .tup [.ref x]) np)
    refine ⟨_, ctsD [imp n], dp_rowsT (sameT s2 hS.rt) (hS.ok.same s2), .tup (SqT.of upd_same) (.cons (dp_ct (hx.same (same_upd np))) .nil), shaped_ctsD _, shaped_ctsD _, ?_⟩
    rw [eqv_ctsD]
    exact q _ s2
theorem ok_System_reduced (T : Txt K mg A) : FnOk P w K mg base CX0 6 A.f_System_reduced A.d_System_reduced ["self"] (sp_System_reduced A K) := by
  have G_System___init__ := ok_System___init__ (w := w) (base := base) T
  have G_reduced_rows := ok_reduced_rows (w := w) (base := base) T
  refine T.F_System_reduced.ok sc_System_reduced (fun vs H Q E h => ?_) (fun cdv A' outer s H vs Q E hr h => ?_)
  · obtain ⟨a, dx, ra, n, rs, rfl, _⟩ := h
    rfl
  · obtain ⟨a, dx, ra, n, rs, rfl, hS, hW, hn, hl, q⟩ := h
    refine ⟨_, (pss_one (ps_ret (pe_make T.mk_System G_System___init__ hr (by rfl) T.gC_System T.B_System___init__ .nil pass0 (pa_cons (pe_fld (pv 0) rfl) (pa_cons (pe_call G_reduced_rows (hr.mono (by decide)) (by rfl) T.g_reduced_rows T.F_reduced_rows.kp T.B_reduced_rows .nil pass0 (pa_cons (pe_fld (pv 0) rfl) (pa_cons (pe_fld (pv 0) rfl) pa_nil))) pa_nil))))), ?_⟩
    walk_at "wp"
    refine ⟨_, dx, _, hS.ob, T.cl_System, T.na_System_variables, _, look_var, _, dx, _, hS.ob, T.cl_System, T.na_System_variables, _, look_var, _, dx, _, hS.ob, T.cl_System, T.na_System_rows, _, look_rows, n, ra, rs, rfl, hS.rt, hS.ok, hW, hn, hl, fun H1 rb ss s1 h1 o1 e1 => ?_⟩
    have len1 : ss.length ≤ 6000 := by
      have := rrows_len n (cts rs) []
      rw [← e1, cts, cts, List.length_map, List.length_map] at this
      simp only [List.length_nil] at this
      omega
    have wf1 : ∀ r ∈ ss, Wf n r.2 := fun r hr' => rrows_mem n (Wf n) (cts rs) [] (fun t ht u hu => by
      obtain ⟨r', h1, rfl⟩ := List.mem_map.mp ht
      exact (hW r' h1).red hu) (fun t ht => by cases ht) r.2 (by rw [← e1]; exact List.mem_map.mpr ⟨r, hr', rfl⟩)
    exact sys_make (.inr h1) o1 wf1 hn len1 fun H2 x dy rc s2 sy => q _ x dy rc ss (s1.trans s2) sy e1
end
local macro_rules | `(tactic| walk_at "wp") => `(tactic| simp only [tSeq, tAsg, gName, gTup, gCons, gNil, tVar, tC, tOp, tUn, rI, rI0, rU, tCB, tCons, tNil, tIfS, tRet, tRetN, tNext, tNever, test_eq, tB, tTup, tLst, tCall, tIf, tAndV, tOrV, tNotV, tNot, tAnd, tOr, rEq, rNe, scal_ii, scal_ss, scal_bb, dec_ii, dec_ss, dec_bb, for_eq, lc_eq, while_eq, tDrop, tYes, iList, iTup, iOr, tDNewN, tNSet, rNSet, sFld, tFld, tMake, tProp, tMeth, cxP, cxW, iStr, iRng1, iRng2, RZ.iZipA, L2.start, rIxL, rIxT, rIxS, rSlS, cxK, tSl, tPart, tNoPart, tBM, tBM0, rAppend, rExtend, rRepS, rGcd, s_ge_eq, s_ge_div, s_eq_ge, s_eq_div, s_div_ge, s_div_eq, gSub, rSetL, tAug, ipI, rAdd, rSub, tM1, tM0,
  List.map_cons, List.map_nil, List.length_cons, List.length_nil, List.cons_append, List.nil_append, List.append_nil, List.getElem?_cons_succ, List.getElem?_cons_zero, List.set_cons_succ, List.set_cons_zero, Nat.reduceAdd, Nat.reduceSub, List.replicate_succ, List.replicate_zero, wipe,
  Option.some.injEq, V.int.injEq, V.str.injEq, sgn_eq, V.ref.injEq, V.bl.injEq, exists_eq_left, exists_eq_left', exists_and_left, exists_eq_right, List.cons.injEq, and_true, true_and, ex_bl, ex_int, exists_const, Nat.zero_add, Int.toNat_natCast, Int.zero_add, and_assoc, reduceCtorEq, false_and, and_false, exists_false, or_false, false_or, eq_self, decide_true, decide_false, ite_true, ite_false, if_true, if_false, Bool.false_eq_true, Bool.not_true, Bool.not_false, ↓reduceIte])
theorem sz_cell {ns : List Int} (hb : ∀ z ∈ ns, Builtin.Int.intBits z ≤ 1048576) (j : Nat) : Sz 1048577 (cellOf ns j) := by
  unfold L2.cellOf
  by_cases h : j < ns.length
  · exact Sz.bits (hb _ (memD h))
  · rw [List.getD_eq_getElem?_getD, List.getElem?_eq_none (by omega)]
    exact Sz.zero _
section
variable {w : World} {K : PySem.W.Frag} {mg : Str → Option Value} {base : Heap} {A : Ad}
def sp_law_all_hold (K : PySem.W.Frag) : Sp := fun vs H Q _ => ∃ (ra b : Addr) (rs : List Rw) (p : List Int) (n : Nat), vs = [.ref ra, .ref b] ∧ (SqL K H ra (rv rs) ∨ SqT K H ra (rv rs)) ∧ RwOk K H rs ∧ (∀ r ∈ rs, r.2.k.ok ∧ r.2.c.length = n ∧ ∀ x ∈ r.2.c, Sz 100000 x) ∧ SqT K H b (p.map V.int) ∧ p.length = n ∧ n ≤ 90 ∧ (∀ x ∈ p, Sz 100000 x) ∧
  ∀ H', Same H H' → Q (.bl ((cts rs).all (·.at_ p))) H'
def sp_law_rows (K : PySem.W.Frag) : Sp := fun vs H Q _ => ∃ (l : Addr) (ns : List Int) (st c : Nat) (b : Addr) (p : List Int) (n : Nat), vs = [.ref l, .int (st : Int), .int (c : Int), .ref b] ∧ SqL K H l (ns.map V.int) ∧ (∀ z ∈ ns, Builtin.Int.intBits z ≤ 1048576) ∧ SqT K H b (p.map V.int) ∧ Pt n p ∧ n ≤ 40 ∧ c ≤ 100 ∧
  ∀ H' la rs, Same H H' → H la = none → H' la = some (.lst (rv rs)) → RwOk K H' rs → (∀ r ∈ rs, Gd n r.2) → rs.length = c → Q (.ref la) H'
theorem ok_law_all_hold (T : Txt K mg A) : FnOk P w K mg base CX0 3 A.f_law_all_hold A.d_law_all_hold ["rows", "point"] (sp_law_all_hold K) := by
  have G_law_holds := ok_law_holds (w := w) (base := base) T
  refine T.F_law_all_hold.ok sc_law_all_hold (fun vs H Q E h => ?_) (fun cdv A' outer s H vs Q E hr h => ?_)
  · obtain ⟨ra, b, rs, p, n, rfl, _⟩ := h
    rfl
  · obtain ⟨ra, b, rs, p, n, rfl, hR, hO, hW, hB, hp, hn, hz, q⟩ := h
    refine ⟨_, (pss_cons (ps_for PassesOwn.never rfl (pi_or (pi_list (pv 0)) (pi_tup (pv 0))) (pg_name (i := 2) sc_law_all_hold.nd rfl (Or.inl rfl)) 
      (pss_one (ps_if (pt_not (pt_val (pe_call G_law_holds hr (by rfl) T.g_law_holds T.F_law_holds.kp T.B_law_holds .nil pass0 (pa_cons (pv 2) (pa_cons (pv 1) pa_nil))))) 
        (pss_one (ps_ret pe_bl)) pss_nil))) 
    (pss_one (ps_ret pe_bl))), ?_⟩
    walk_at "wp"
    have body : ∀ (J : It), Walk J (rv rs).length (fun H' => Same H H') (YAt (rv rs)) → Loop J (gName 2)
        (tIfS (tNot (tB (tCall (sp_law_holds K) [] E0 (tCons (tVar 2) (tCons (tVar 1) tNil))))) (tRet (tC (V.bl false))) tNext)
        { nx := tRet (tC (V.bl true)) { nx := fun x H' => Q V.non H', rt := Q }, rt := Q } [some (V.ref ra), some (V.ref b), none] H := fun J wk => by
      refine loop_it wk (fun i σ H' => Same H H' ∧ ((cts rs).take i).all (·.at_ p) = true ∧ ∃ v, σ = [some (V.ref ra), some (V.ref b), v]) ⟨Same.refl _, rfl, _, rfl⟩ (fun i σ H' _ pw => pw.1) ?_ ?_
      · rintro i x σ H1 H2 hi ⟨s1, ha, v, rfl⟩ yy
        obtain ⟨rfl, e⟩ := yat_at yy
        rw [rv, List.length_map] at hi
        rw [rv, List.getElem?_map, List.getElem?_eq_getElem hi] at e
        cases e
        have hmem : rs[i] ∈ rs := List.getElem_mem hi
        obtain ⟨w1, w2, w3⟩ := hW _ hmem
        walk_at "wp"
        refine ⟨rs[i].1, b, rs[i].2, p, rfl, (hO _ hmem).same s1, w1, sameT s1 hB, by rw [w2, hp], by rw [hp]; exact hn, w3, hz, fun H3 s3 => ?_⟩
        have e2 : ((cts rs).take (i + 1)).all (·.at_ p) = rs[i].2.at_ p := by
          rw [List.take_succ_eq_append_getElem (by rw [cts, List.length_map]; exact hi), List.all_append, ha]
          simp [cts]
        cases hv : rs[i].2.at_ p with
        | true =>
          refine ⟨true, rfl, ?_⟩
          walk_at "wp"
          exact ⟨s1.trans s3, by rw [e2, hv], _, rfl⟩
        | false =>
          refine ⟨false, rfl, ?_⟩
          walk_at "wp"
          have e3 : (cts rs).all (·.at_ p) = false := by
            rw [List.all_eq_false]
            exact ⟨_, List.mem_map.mpr ⟨_, hmem, rfl⟩, by rw [hv]; simp⟩
          rw [e3] at q
          exact q _ (s1.trans s3)
      · rintro σ H1 ⟨s1, ha, v, rfl⟩
        rw [rv, List.length_map, List.take_of_length_le (by rw [cts, List.length_map]; exact Nat.le_refl _)] at ha
        rw [ha] at q
        walk_at "wp"
        exact q _ s1
    rcases hR with hL | hT
    · exact .inl ⟨⟨_, hL⟩, body _ ((walk_list (xs := rv rs)).mono (fun H' s => s.seq hL) (fun i H' v H'' _ _ y => y))⟩
    · exact .inr ⟨⟨_, hT⟩, body _ ((walk_tup (xs := rv rs)).mono (fun H' s => sameT s hT) (fun i H' v H'' _ _ y => y))⟩
theorem ok_law_rows (T : Txt K mg A) : FnOk P w K mg base CX0 3 A.f_law_rows A.d_law_rows ["script", "start", "count", "point"] (sp_law_rows K) := by
  have G_law_constraint := ok_law_constraint (w := w) (base := base) T
  have G_law_cell := ok_law_cell (w := w) (base := base) T
  refine T.F_law_rows.ok sc_law_rows (fun vs H Q E h => ?_) (fun cdv A' outer s H vs Q E hr h => ?_)
  · obtain ⟨l, ns, st, c, b, p, n, rfl, _⟩ := h
    rfl
  · obtain ⟨l, ns, st, c, b, p, n, rfl, hS, hb, hB, hP, hn, hc, q⟩ := h
    refine ⟨_, (pss_one (ps_ret (pe_lc (own := [("k", 4)]) (by rfl) sc_law_rows.nd (pi_range1 (by rfl) T.b_range (pa_cons (pv 2) pa_nil)) (blkOk_by (own := [("k", 4)]) (N := ["script", "start", "count", "point", "k"]) (sc := defScope s_law_rows) (by decide +kernel)) (fun _ _ _ _ _ => (pg_name (i := 4) sc_law_rows.nd rfl (Or.inl rfl) (Or.inr rfl))) (fun _ _ _ _ _ => pts_nil) (fun _ _ _ _ _ => (pe_call G_law_constraint hr (by rfl) T.g_law_constraint T.F_law_constraint.kp T.B_law_constraint .nil pass0 (pa_cons (pe_call G_law_cell (hr.mono (by decide)) (by rfl) T.g_law_cell T.F_law_cell.kp T.B_law_cell .nil pass0 (pa_cons (pv 0) (pa_cons (pe_op op_add (pv 1) (pv 4)) pa_nil))) (pa_cons (pv 3) pa_nil))))))), ?_⟩
    walk_at "wp"
    refine ⟨by omega, by omega, fun D hD => ?_⟩
    refine loopc_it (walk_range0 (n := c)) (fun i H' => ∃ rs : List Rw, Same H H' ∧ H' D = some (.lst (rv rs)) ∧ RwOk K H' rs ∧ (∀ r ∈ rs, Gd n r.2) ∧ rs.length = i) ⟨[], same_upd hD, upd_same, (fun r hr => by cases hr), (fun r hr => by cases hr), rfl⟩ (fun _ _ _ _ => trivial) ?_ ?_
    · rintro i x H1 H2 hi ⟨rs, s1, e1, o1, g1, l1⟩ ⟨rfl, rfl⟩
      walk_at "wp"
      refine ⟨l, ns, st + i, by rw [Int.natCast_add], s1.seq hS, cellOf ns (st + i), b, p, n, rfl, sz_cell hb _, sameT s1 hB, hP, hn, fun H3 x t s3 hT hG => ?_⟩
      refine ⟨_, s3 _ _ e1, by rw [rv, List.length_map]; exact small1000 (by omega), same_upd2 (s1.trans s3) hD, rs ++ [(x, t)], ?_, fun r hr => ?_, fun r hr => ?_, ?_⟩
      · rw [upd_same, rv, rv, List.map_append]
        rfl
      · have sb : SBut D H3 (upd H3 D (.lst (rv rs ++ [V.ref x]))) := SBut.upd
        rcases List.mem_append.mp hr with hr | hr
        · exact ((o1 r hr).same s3).but sb (s3 _ _ e1) noTup_lst
        · rw [List.mem_singleton.mp hr]
          exact hT.but sb (s3 _ _ e1) noTup_lst
      · rcases List.mem_append.mp hr with hr | hr
        · exact g1 r hr
        · rw [List.mem_singleton.mp hr]
          exact hG
      · rw [List.length_append, List.length_singleton, l1]
    · rintro H1 ⟨rs, s1, e1, o1, g1, l1⟩
      exact q _ D rs s1 hD e1 o1 g1 l1
end
local macro_rules | `(tactic| walk_at "wp") => `(tactic| simp only [tSeq, tCKw, tAsg, tPar, gName, gTup, gCons, gNil, tVar, tC, tOp, tUn, rI, rI0, rU, tCB, tCons, tNil, tIfS, tRet, tRetN, tNext, tNever, test_eq, tB, tTup, tLst, tCall, L2.tCallN, tCallL, tCallS, tCallLS, tMakeS, tAddS, tChain, rNotInO, rInO, iEnumT, iEnum, rIsnotB, rIsB, iZipM, tMkO, tThru, sFldAug, ipI, tIf, tAndV, tOrV, tNotV, tNot, tAnd, tOr, rEq, rNe, scal_ii, scal_ss, scal_bb, dec_ii, dec_ss, dec_bb, for_eq, lc_eq, lc2_eq, while_eq, tDrop, tYes, iList, iTup, iOr, tDNewN, tNSet, rNSet, sFld, tFld, tMake, tProp, tMeth, cxP, cxW, iStr, iRng1, iRng2, RZ.iZipA, L2.start, rIxL, rIxT, rIxS, rSlS, cxK, tSl, tPart, tNoPart, tBM, tBM0, rAppend, rExtend, rRepS, rGcd, s_ge_eq, s_ge_div, s_eq_ge, s_eq_div, s_div_ge, s_div_eq, gSub, rSetL, tAug, ipI, rAdd, rSub, tM1, tM0,
  List.map_cons, List.map_nil, List.length_cons, List.length_nil, List.cons_append, List.nil_append, List.append_nil, List.getElem?_cons_succ, List.getElem?_cons_zero, List.set_cons_succ, List.set_cons_zero, Nat.reduceAdd, Nat.reduceSub, List.replicate_succ, List.replicate_zero, wipe,
  Option.some.injEq, V.int.injEq, V.str.injEq, sgn_eq, V.ref.injEq, V.bl.injEq, exists_eq_left, exists_eq_left', exists_and_left, exists_eq_right, List.cons.injEq, and_true, true_and, ex_bl, ex_int, exists_const, Nat.zero_add, Int.toNat_natCast, Int.zero_add, and_assoc, reduceCtorEq, false_and, and_false, exists_false, or_false, false_or, eq_self, decide_true, decide_false, ite_true, ite_false, if_true, if_false, Bool.false_eq_true, Bool.not_true, Bool.not_false, ↓reduceIte])
theorem look_no {x y : V} {m : Str} (h1 : (m == ("variables" : Str)) = false) (h2 : (m == ("rows" : Str)) = false) : ([(("variables" : Str), x), ("rows", y)] : List (Str × V)).lookup m = none := by simp [List.lookup, h1, h2]
theorem red0 {t : Ct} (h : t.c = []) : red t = none ∨ red t = some (imp 0) := by
  obtain ⟨k, c, d⟩ := t
  obtain rfl : c = [] := h
  cases k with
  | ge =>
    simp only [red]
    rw [show gl 0 [] = 0 from rfl, if_neg (by decide)]
    split
    · exact .inl rfl
    · exact .inr rfl
  | eq =>
    simp only [red]
    rw [show gl 0 [] = 0 from rfl]
    split
    · exact .inl rfl
    · rw [if_pos (.inl rfl)]
      exact .inr rfl
  | div m =>
    simp only [red, List.map_nil]
    rw [show gl m.toNat [] = m.toNat from rfl]
    split
    · exact .inr rfl
    · rw [if_pos rfl]
      exact .inl rfl
theorem rrows0 : ∀ ts : List Ct, (∀ t ∈ ts, t.c = []) → rrows 0 [] ts = [imp 0] ∨ rrows 0 [] ts = []
  | [], _ => .inr rfl
  | t :: r, h => by
    rw [rrows]
    rcases red0 (h t List.mem_cons_self) with e | e
    · rw [e]
      exact rrows0 r fun x hx => h x (List.mem_cons_of_mem _ hx)
    · rw [e]
      exact .inl (if_pos rfl)
/-- reduced to the impossible constraint: no point -/
theorem closed_no {n : Nat} {ts : List Ct} {p : List Int} (ok : ∀ t ∈ ts, t.k.ok) (h : rrows n [] ts = [imp n]) : ts.all (·.at_ p) = false := by
  have e := rrows_all n p ts [] ok
  rw [h] at e
  simpa [imp_at] using e.symm
theorem closed_iff0 {ts : List Ct} (ok : ∀ t ∈ ts, t.k.ok) (h : ∀ t ∈ ts, t.c = []) : decide (rrows 0 [] ts = [imp 0]) = !ts.all (·.at_ []) := by
  rcases rrows0 ts h with e | e
  · rw [e, closed_no ok e]
    simp
  · have h1 := rrows_all 0 [] ts [] ok
    rw [e] at h1
    rw [e, show ts.all (·.at_ []) = true by simpa using h1.symm]
    rfl
theorem sl_rest1 {K : PySem.W.Frag} {H : Hp} {x : Addr} {v : V} {Q : VK} (h : SqT K H x [v]) (q : ∀ H' p, Same H H' → SqT K H' p [] → Q (.ref p) H') : rSlA K (.ref x) (some 1) none H Q := by
  refine ⟨x, _, rfl, h, fun z => ?_, fun _ p np => q _ p (same_upd np) ?_⟩
  · have z1 : min 1 [v].length = 0 := (HT.sIx_nat _ 0 1).symm.trans z.1
    simp at z1
  · have ec : cutV [v] (some 1) none = [] := rfl
    rw [ec]
    exact SqT.of upd_same
/-- a system that is reduced to the impossible one -/
def Im (A : Ad) (K : PySem.W.Frag) (H : Hp) (a : Addr) : Prop := ∃ (dx ra : Addr) (n : Nat) (rs : List Rw), Sy K A.C_System H a dx ra n rs ∧ (∀ r ∈ rs, Wf n r.2) ∧ n ≤ 90 ∧ rs.length ≤ 5000 ∧ rrows n [] (cts rs) = [imp n]
theorem Im.same {A : Ad} {K : PySem.W.Frag} {H H' : Hp} {a : Addr} (h : Im A K H a) (s : Same H H') : Im A K H' a := let ⟨dx, ra, n, rs, h1, h2⟩ := h; ⟨dx, ra, n, rs, h1.same s, h2⟩
/-- the steps ("close",) -/
def Cl (K : PySem.W.Frag) (H : Hp) (st : Addr) : Prop := SqT K H st [.str (Str.ofString "close")]
def Cls1 (K : PySem.W.Frag) (H : Hp) (sts : Addr) : Prop := ∃ st, SqT K H sts [.ref st] ∧ Cl K H st
theorem Cls1.same {K : PySem.W.Frag} {H H' : Hp} {a : Addr} (h : Cls1 K H a) (s : Same H H') : Cls1 K H' a := let ⟨st, h1, h2⟩ := h; ⟨st, sameT s h1, sameT s h2⟩
def sp_closed (A : Ad) (K : PySem.W.Frag) : Sp := fun vs H Q _ => ∃ a, vs = [.ref a] ∧ Im A K H a ∧ ∀ H' p, Same H H' → SqT K H' p [] → Q (.ref p) H'
def sp_made_by (A : Ad) (K : PySem.W.Frag) : Sp := fun vs H Q _ => ∃ a st, vs = [.ref a, .ref st] ∧ Im A K H a ∧ Cl K H st ∧ ∀ H' p, Same H H' → SqT K H' p [] → Q (.ref p) H'
def sp_check_left (A : Ad) (K : PySem.W.Frag) : Sp := fun vs H Q _ => ∃ p, vs = [.ref p] ∧ SqT K H p [] ∧ ∀ H', Same H H' → Q .non H'
def sp_check_numbers (A : Ad) (K : PySem.W.Frag) : Sp := fun vs H Q _ => ∃ p, vs = [.ref p] ∧ SqT K H p [] ∧ ∀ H', Same H H' → Q .non H'
def sp_left_behind (A : Ad) (K : PySem.W.Frag) : Sp := fun vs H Q _ => ∃ l a sts, vs = [.ref l, .ref sts, .ref A.f_made_by] ∧ SqT K H l [.ref a] ∧ Im A K H a ∧ Cls1 K H sts ∧ ∀ H' p, Same H H' → SqT K H' p [] → Q (.ref p) H'
def sp_remaining (A : Ad) (K : PySem.W.Frag) : Sp := fun vs H Q _ => ∃ a sts, vs = [.ref a, .ref sts] ∧ Im A K H a ∧ Cls1 K H sts ∧ ∀ H' p, Same H H' → SqT K H' p [] → Q (.ref p) H'
def sp_refutes (A : Ad) (K : PySem.W.Frag) : Sp := fun vs H Q _ => ∃ a sts, vs = [.ref a, .ref sts] ∧ Im A K H a ∧ Cls1 K H sts ∧ ∀ H', Same H H' → Q (.bl true) H'
section
variable {w : World} {K : PySem.W.Frag} {mg : Str → Option Value} {base : Heap} {A : Ad}
theorem ok_closed (T : Txt K mg A) : FnOk P w K mg base CX0 7 A.f_closed A.d_closed ["system"] (sp_closed A K) := by
  have G_System_is_impossible := ok_System_is_impossible (w := w) (base := base) T
  have G_System_reduced := ok_System_reduced (w := w) (base := base) T
  refine T.F_closed.ok sc_closed (fun vs H Q E h => ?_) (fun cdv A' outer s H vs Q E hr h => ?_)
  · obtain ⟨a, rfl, _⟩ := h
    rfl
  · obtain ⟨a, rfl, ⟨dx, ra, n, rs, sy, hW, hn, hr9, hi⟩, q⟩ := h
    refine ⟨_, (pss_one (ps_ret (pe_ifExp (pt_val (pe_prop (pe_meth0 (pv 0) T.cl_System T.me_System_reduced G_System_reduced hr T.B_System_reduced .nil pass0) T.cl_System T.pr_System_is_impossible G_System_is_impossible (hr.mono (by decide)) T.B_System_is_impossible .nil pass0 rfl)) (pe_tup pa_nil) pe_non))), ?_⟩
    walk_at "wp"
    refine ⟨dx, _, sy.ob, look_no (by decide +kernel) (by decide +kernel), a, dx, ra, n, rs, rfl, sy, hW, hn, hr9, fun H1 b db rb ss s1 sb e1 => ⟨b, rfl, db, _, sb.ob, b, db, rb, n, ss, rfl, sb, hn, fun H2 s2 => ⟨_, rfl, ?_⟩⟩⟩
    rw [e1, if_pos (decide_eq_true hi)]
    exact ⟨by decide, fun p3 n3 => q _ p3 ((s1.trans s2).trans (same_upd n3)) (SqT.of upd_same)⟩
theorem ok_made_by (T : Txt K mg A) : FnOk P w K mg base CX0 8 A.f_made_by A.d_made_by ["system", "step"] (sp_made_by A K) := by
  have G_closed := ok_closed (w := w) (base := base) T
  refine T.F_made_by.ok sc_made_by (fun vs H Q E h => ?_) (fun cdv A' outer s H vs Q E hr h => ?_)
  · obtain ⟨a, st, rfl, _⟩ := h
    rfl
  · obtain ⟨a, st, rfl, hI, hS, q⟩ := h
    refine ⟨_, (pss_cons (ps_if (PW.pt (pw_or (pt_not (pt_val (pe_callB call_isi (by rfl) T.b_isinstance (by decide +kernel) (pa_cons (pv 1) (pa_cons (pe_bltn (v := .ty "tuple") (by rfl) T.b_tuple (by decide +kernel) rfl) pa_nil))))) (pw_or1 (pt_cmpR op_eq (pe_callB call_len_seq (by rfl) T.b_len (by decide +kernel) (pa_cons (pv 1) pa_nil)) pe_int (nomark _))))) 
      (pss_one (ps_ret pe_non)) pss_nil) 
    (pss_cons (ps_if (pt_cmpR (op_eqD hr.units) (pv 1) (pe_tup (pa_cons pe_str pa_nil)) (nomark _)) 
      (pss_one (ps_ret (pe_call G_closed hr (by rfl) T.g_closed T.F_closed.kp T.B_closed .nil pass0 (pa_cons (pv 0) pa_nil)))) pss_nil) 
    (pss_cons (ps_if (PW.pt (pw_and (pt_cmpR op_eq (pe_ix ix_tup (pv 1) pe_int (fun _ _ => rfl)) pe_str (nomark _)) (pw_and1 (pt_cmpR op_eq (pe_callB call_len_seq (by rfl) T.b_len (by decide +kernel) (pa_cons (pv 1) pa_nil)) pe_int (nomark _))))) 
      (pss_one ps_never) pss_nil) 
    (pss_cons (ps_if (PW.pt (pw_and (pt_cmpR op_eq (pe_ix ix_tup (pv 1) pe_int (fun _ _ => rfl)) pe_str (nomark _)) (pw_and1 (pt_cmpR op_eq (pe_callB call_len_seq (by rfl) T.b_len (by decide +kernel) (pa_cons (pv 1) pa_nil)) pe_int (nomark _))))) 
      (pss_one ps_never) pss_nil) 
    (pss_cons (ps_if (PW.pt (pw_and (pt_cmpR op_eq (pe_ix ix_tup (pv 1) pe_int (fun _ _ => rfl)) pe_str (nomark _)) (pw_and1 (pt_cmpR op_eq (pe_callB call_len_seq (by rfl) T.b_len (by decide +kernel) (pa_cons (pv 1) pa_nil)) pe_int (nomark _))))) 
      (pss_one ps_never) pss_nil) 
    (pss_one (ps_ret pe_non))))))), ?_⟩
    walk_at "wp"
    refine isi (ty_tup hS) (r := true) (by decide +kernel) ⟨true, rfl, ?_⟩
    walk_at "wp"
    refine ⟨_, .inr hS, ?_⟩
    walk_at "wp"
    refine ⟨by decide, fun p1 n1 => ?_⟩
    have s1 := same_upd (o := .tup [V.str (Str.ofString "close")]) n1
    have hS1 := sameT s1 hS
    refine ⟨.tuple [.str "close"], .tuple [.str "close"], .tup hS1 (.cons (.str _) .nil), .tup (SqT.of upd_same) (.cons (.str _) .nil), by decide +kernel, by decide +kernel, ?_⟩
    have ee : PyData.eqv (.tuple [.str "close"]) (.tuple [.str "close"]) = true := by
      simp [PyData.eqv, PyData.eqvAll]
    rw [ee]
    refine ⟨true, rfl, ?_⟩
    walk_at "wp"
    exact ⟨a, rfl, hI.same s1, fun H' p s h => q _ _ (s1.trans s) h⟩
theorem ok_check_left (T : Txt K mg A) : FnOk P w K mg base CX0 1 A.f_check_left A.d_check_left ["systems"] (sp_check_left A K) := by
  refine T.F_check_left.ok sc_check_left (fun vs H Q E h => ?_) (fun cdv A' outer s H vs Q E hr h => ?_)
  · obtain ⟨t, rfl, _⟩ := h
    rfl
  · obtain ⟨t, rfl, hT, q⟩ := h
    refine ⟨_, (pss_cons (ps_if (pt_val (pe_callB (cr_any rfl) (by rfl) T.b_any (by decide +kernel) (pa_cons (pe_lc (own := [("system", 1)]) (by rfl) sc_check_left.nd (pi_tup (pv 0)) (blkOk_by (own := [("system", 1)]) (N := ["systems", "system"]) (sc := defScope s_check_left) (by decide +kernel)) (fun _ _ _ _ _ => (pg_name (i := 1) sc_check_left.nd rfl (Or.inl rfl) (Or.inr rfl))) (fun _ _ _ _ _ => pts_nil) (fun _ _ _ _ _ => (pe_cmpR op_gt (pe_fldK (K := K) (pv 1) (by rfl) (by rfl)) (pe_glob (v := .int 40) rfl T.g_MOST_VARIABLES ⟨_, rfl⟩) (nomark _)))) pa_nil))) 
      (pss_one ps_never) pss_nil) 
    (pss_one (ps_if (pt_cmpR op_gt (pe_callB (cr_sum rfl) (by rfl) T.b_sum (by decide +kernel) (pa_cons (pe_lc (own := [("system", 1)]) (by rfl) sc_check_left.nd (pi_tup (pv 0)) (blkOk_by (own := [("system", 1)]) (N := ["systems", "system"]) (sc := defScope s_check_left) (by decide +kernel)) (fun _ _ _ _ _ => (pg_name (i := 1) sc_check_left.nd rfl (Or.inl rfl) (Or.inr rfl))) (fun _ _ _ _ _ => pts_nil) (fun _ _ _ _ _ => (pe_fldK (K := K) (pv 1) (by rfl) (by rfl)))) pa_nil)) (pe_glob (v := .int 4000) rfl T.g_MOST_WEIGHT ⟨_, rfl⟩) (nomark _)) 
      (pss_one ps_never) pss_nil))), ?_⟩
    walk_at "wp"
    refine ⟨⟨_, hT⟩, fun D hD => ?_⟩
    refine lc_yat (walk_tup (xs := ([] : List V))) rfl (fun v => .bl false) hD (by decide) (fun H' s => sameT s hT) (fun x H' R hx s1 k => by cases hx) (fun H5 s5 e5 => ?_)
    refine ⟨D, [], rfl, SqL.of e5, _, rfl, ?_⟩
    rw [if_neg (by decide)]
    have hT5 := sameT s5 hT
    refine ⟨⟨_, hT5⟩, fun D2 hD2 => ?_⟩
    refine lc_yat (walk_tup (xs := ([] : List V))) rfl (fun v => .int 0) hD2 (by decide) (fun H' s => sameT s hT5) (fun x H' R hx s1 k => by cases hx) (fun H6 s6 e6 => ?_)
    refine ⟨D2, [], rfl, SqL.of e6, _, rfl, ?_⟩
    rw [if_neg (by decide)]
    exact q _ (s5.trans s6)
theorem ok_check_numbers (T : Txt K mg A) : FnOk P w K mg base CX0 1 A.f_check_numbers A.d_check_numbers ["systems"] (sp_check_numbers A K) := by
  refine T.F_check_numbers.ok sc_check_numbers (fun vs H Q E h => ?_) (fun cdv A' outer s H vs Q E hr h => ?_)
  · obtain ⟨t, rfl, _⟩ := h
    rfl
  · obtain ⟨t, rfl, hT, q⟩ := h
    refine ⟨_, (pss_one (ps_for PassesOwn.never rfl (pi_tup (pv 0)) (pg_name (i := 1) sc_check_numbers.nd rfl (Or.inl rfl)) 
      (pss_one (ps_for PassesOwn.never rfl (pi_tup (pe_fld (pv 1) rfl)) (pg_name (i := 2) sc_check_numbers.nd rfl (Or.inl rfl)) 
        (pss_one (ps_if (pt_val (pe_callB (cr_any rfl) (by rfl) T.b_any (by decide +kernel) (pa_cons (pe_lc (own := [("number", 3)]) (by rfl) sc_check_numbers.nd (pi_tup (pe_op op_catA (pe_slice sl_tupA (pv 2) (po_some pe_int) (po_some (pe_un un_neg pe_int))) (pe_ix ix_tup (pv 2) (pe_un un_neg pe_int) (fun _ _ => rfl)))) (blkOk_by (own := [("number", 3)]) (N := ["systems", "system", "row", "number"]) (sc := defScope s_check_numbers) (by decide +kernel)) (fun _ _ _ _ _ => (pg_name (i := 3) sc_check_numbers.nd rfl (Or.inl rfl) (Or.inr rfl))) (fun _ _ _ _ _ => pts_nil) (fun _ _ _ _ _ => (pe_cmpR op_gt (pe_callB call_abs (by rfl) T.b_abs (by decide +kernel) (pa_cons (pv 3) pa_nil)) (pe_glob (v := .int 1000000000000000000) rfl T.g_GREATEST ⟨_, rfl⟩) (nomark _)))) pa_nil))) 
          (pss_one ps_never) pss_nil)))))), ?_⟩
    walk_at "wp"
    refine ⟨⟨_, hT⟩, ?_⟩
    refine loop_it (walk_tup (xs := ([] : List V))) (fun i σ H' => Same H H' ∧ σ = [some (.ref t), none, none, none]) ⟨Same.refl _, rfl⟩ (fun i σ H' _ pw => sameT pw.1 hT) ?_ ?_
    · rintro i x σ H1 H2 hi
      exact absurd hi (Nat.not_lt_zero _)
    · rintro σ H1 ⟨s1, rfl⟩
      walk_at "wp"
      exact q _ s1
theorem ok_left_behind (T : Txt K mg A) : FnOk P w K mg base CX0 9 A.f_left_behind A.d_left_behind ["left", "steps", "make"] (sp_left_behind A K) := by
  have G_check_left := ok_check_left (w := w) (base := base) T
  have G_check_numbers := ok_check_numbers (w := w) (base := base) T
  have G_made_by := ok_made_by (w := w) (base := base) T
  refine T.F_left_behind.ok sc_left_behind (fun vs H Q E h => ?_) (fun cdv A' outer s H vs Q E hr h => ?_)
  · obtain ⟨l0, a, sts, rfl, _⟩ := h
    rfl
  · obtain ⟨l0, a, sts, rfl, hL0, hI, ⟨st, hS, hC⟩, q⟩ := h
    refine ⟨_, (pss_cons (ps_for PassesOwn.never rfl (pi_enumT (by rfl) T.b_enumerate (pa_cons (pv 1) pa_nil)) (pg_tup rfl (pgs_cons (pg_name (i := 3) sc_left_behind.nd rfl (Or.inl rfl)) (pgs_cons (pg_name (i := 4) sc_left_behind.nd rfl (Or.inl rfl)) pgs_nil))) 
      (pss_cons (ps_set (i := 5) sc_left_behind.nd rfl (Or.inl rfl) (pe_ifExp (pt_cmpR op_gt (pe_callB call_len_seq (by rfl) T.b_len (by decide +kernel) (pa_cons (pv 0) pa_nil)) pe_int (nomark _)) (pe_callL (i := 2) G_made_by hr rfl (Or.inl rfl) T.F_made_by.kp T.B_made_by .nil pass0 (pa_cons (pe_ix ix_tup (pv 0) pe_int (fun _ _ => rfl)) (pa_cons (pv 4) pa_nil))) pe_non)) 
      (pss_cons (ps_if (pt_cmpR op_isN (pv 5) pe_non (nomark _)) 
        (pss_one ps_never) pss_nil) 
      (pss_cons (ps_set (i := 0) sc_left_behind.nd rfl (Or.inl rfl) (pe_op op_catA (pv 5) (pe_slice sl_tupA (pv 0) (po_some pe_int) po_none))) 
      (pss_cons (ps_expr (pe_call G_check_left (hr.mono (by decide)) (by rfl) T.g_check_left T.F_check_left.kp T.B_check_left .nil pass0 (pa_cons (pv 0) pa_nil))) 
      (pss_one (ps_expr (pe_call G_check_numbers (hr.mono (by decide)) (by rfl) T.g_check_numbers T.F_check_numbers.kp T.B_check_numbers .nil pass0 (pa_cons (pv 5) pa_nil))))))))) 
    (pss_one (ps_ret (pv 0)))), ?_⟩
    walk_at "wp"
    refine ⟨[.ref st], hS, ?_⟩
    have s0 : Same H H := Same.refl _
    refine loop_it (walk_enT (xs := [V.ref st])) (fun i σ H' => Same H H' ∧ ((i = 0 ∧ σ = [some (.ref l0), some (.ref sts), some (.ref A.f_made_by), none, none, none]) ∨ (i = 1 ∧ ∃ p v3 v4 v5, SqT K H' p [] ∧ σ = [some (.ref p), some (.ref sts), some (.ref A.f_made_by), v3, v4, v5]))) ⟨s0, .inl ⟨rfl, rfl⟩⟩ (fun i σ H' _ pw => sameT pw.1 hS) ?_ ?_
    · rintro i x σ H1 H2 hi ⟨s1, (⟨rfl, rfl⟩ | ⟨rfl, _⟩)⟩ ⟨t, x, y, rfl, nt, rfl, e1, e2⟩
      · dsimp only at e1 e2
        cases e1
        cases e2
        have s2 := s1.trans (same_upd (o := .tup [V.int ((0 : Nat) : Int), V.ref st]) nt)
        walk_at "wp"
        refine ⟨_, .inl (.inl upd_same), ?_⟩
        walk_at "wp"
        have hp2 := sameT s2 hL0
        refine ⟨rfl, _, .inr hp2, ?_⟩
        rw [if_pos (by rfl)]
        refine ⟨_, hp2, _, rfl, a, st, rfl, hI.same s2, sameT s2 hC, fun H3 p s3 h3 => ?_⟩
        dsimp only
        rw [if_neg (by simp)]
        refine sl_rest1 (sameT s3 hp2) fun H4 p4 s4 h4 => ?_
        refine cat_sm (sameT s4 h3) h4 (by decide) fun H5 p5 s5 h5 => ?_
        exact ⟨p5, rfl, h5, fun H6 s6 => ⟨p, rfl, sameT ((s4.trans s5).trans s6) h3, fun H7 s7 => ⟨(s2.trans s3).trans ((s4.trans s5).trans (s6.trans s7)), p5, sameT (s6.trans s7) h5, rfl, _, rfl⟩⟩⟩
      · exact absurd hi (by simp)
    · rintro σ H1 ⟨s1, (⟨z, _⟩ | ⟨_, p, v3, v4, v5, hp, rfl⟩)⟩
      · exact absurd z (by simp)
      · walk_at "wp"
        exact q _ _ s1 hp
theorem ok_remaining (T : Txt K mg A) : FnOk P w K mg base CX0 10 A.f_remaining A.d_remaining ["system", "steps"] (sp_remaining A K) := by
  have G_left_behind := ok_left_behind (w := w) (base := base) T
  refine T.F_remaining.ok sc_remaining (fun vs H Q E h => ?_) (fun cdv A' outer s H vs Q E hr h => ?_)
  · obtain ⟨a, sts, rfl, _⟩ := h
    rfl
  · obtain ⟨a, sts, rfl, hI, hC, q⟩ := h
    refine ⟨_, (pss_one (ps_ret (pe_call G_left_behind hr (by rfl) T.g_left_behind T.F_left_behind.kp T.B_left_behind .nil pass0 (pa_cons (pe_tup (pa_cons (pv 0) pa_nil)) (pa_cons (pv 1) (pa_cons (pe_glob (v := .ref A.f_made_by) rfl T.g_made_by rfl) pa_nil)))))), ?_⟩
    walk_at "wp"
    refine ⟨by decide, fun p1 n1 => ?_⟩
    have s1 := same_upd (o := .tup [V.ref a]) n1
    exact ⟨p1, a, sts, rfl, SqT.of upd_same, hI.same s1, hC.same s1, fun H' p s h => q _ _ (s1.trans s) h⟩
theorem ok_refutes (T : Txt K mg A) : FnOk P w K mg base CX0 11 A.f_refutes A.d_refutes ["system", "steps"] (sp_refutes A K) := by
  have G_remaining := ok_remaining (w := w) (base := base) T
  refine T.F_refutes.ok sc_refutes (fun vs H Q E h => ?_) (fun cdv A' outer s H vs Q E hr h => ?_)
  · obtain ⟨a, sts, rfl, _⟩ := h
    rfl
  · obtain ⟨a, sts, rfl, hI, hC, q⟩ := h
    refine ⟨_, (pss_one (ps_try_thru0 (pss_one (ps_ret (pe_cmpR op_eq (pe_callB call_len_seq (by rfl) T.b_len (by decide +kernel) (pa_cons (pe_call G_remaining hr (by rfl) T.g_remaining T.F_remaining.kp T.B_remaining .nil pass0 (pa_cons (pv 0) (pa_cons (pv 1) pa_nil))) pa_nil)) pe_int (nomark _)))))), ?_⟩
    walk_at "wp"
    exact ⟨a, sts, rfl, hI, hC, fun H' p s h => ⟨p, rfl, _, .inr h, q _ s⟩⟩
end
local macro_rules | `(tactic| walk_at "wp") => `(tactic| simp only [tSeq, tCKw, tAsg, tPar, gName, gTup, gCons, gNil, tVar, tC, tOp, tUn, rI, rI0, rU, tCB, tCons, tNil, tIfS, tRet, tRetN, tNext, tNever, test_eq, tB, tTup, tLst, tCall, L2.tCallN, tCallL, tCallS, tCallLS, tMakeS, tAddS, tChain, rNotInO, rInO, iEnumT, iEnum, rIsnotB, rIsB, iZipM, tMkO, tThru, sFldAug, ipI, tIf, tAndV, tOrV, tNotV, tNot, tAnd, tOr, rEq, rNe, scal_ii, scal_ss, scal_bb, dec_ii, dec_ss, dec_bb, for_eq, lc_eq, lc2_eq, while_eq, tDrop, tYes, iList, iTup, iOr, tDNewN, tNSet, rNSet, sFld, tFld, tMake, tProp, tMeth, cxP, cxW, iStr, iRng1, iRng2, RZ.iZipA, L2.start, rIxL, rIxT, rIxS, rSlS, cxK, tSl, tPart, tNoPart, tBM, tBM0, rAppend, rExtend, rRepS, rGcd, s_ge_eq, s_ge_div, s_eq_ge, s_eq_div, s_div_ge, s_div_eq, gSub, rSetL, tAug, ipI, rAdd, rSub, tM1, tM0,
  List.map_cons, List.map_nil, List.length_cons, List.length_nil, List.cons_append, List.nil_append, List.append_nil, List.getElem?_cons_succ, List.getElem?_cons_zero, List.set_cons_succ, List.set_cons_zero, Nat.reduceAdd, Nat.reduceSub, List.replicate_succ, List.replicate_zero, wipe,
  Option.some.injEq, V.int.injEq, V.str.injEq, sgn_eq, V.ref.injEq, V.bl.injEq, exists_eq_left, exists_eq_left', exists_and_left, exists_eq_right, List.cons.injEq, and_true, true_and, ex_bl, ex_int, exists_const, Nat.zero_add, Int.toNat_natCast, Int.zero_add, and_assoc, reduceCtorEq, false_and, and_false, exists_false, or_false, false_or, eq_self, decide_true, decide_false, ite_true, ite_false, if_true, if_false, Bool.false_eq_true, Bool.not_true, Bool.not_false, ↓reduceIte])
abbrev FS := List (Str × V)
theorem pe_never {X : Cx} {e : Expr} : PE X e (fun _ _ _ => False) := ⟨fun _ _ _ _ _ _ h => h.elim⟩
theorem putF_len (f : Str) (v : V) : ∀ l : FS, (putF f v l).length ≤ l.length + 1
  | [] => Nat.le_refl _
  | (g, x) :: r => by
    unfold putF
    split
    · exact Nat.le_succ _
    · exact Nat.succ_le_succ (putF_len f v r)
theorem lp_eq {f : Str} {v : V} {l : FS} : (putF f v l).lookup f = some v := by rw [lookup_putF, if_pos rfl]
theorem lp_ne {f g : Str} {v : V} {l : FS} (h : g ≠ f) : (putF f v l).lookup g = l.lookup g := by rw [lookup_putF, if_neg h]
theorem lp_of {f g : Str} {v y : V} {l : FS} (h : g ≠ f) (e : l.lookup g = some y) : (putF f v l).lookup g = some y := by rw [lp_ne h]; exact e
/-- all but an instance stand -/
structure Wx (C x dx : Addr) (H H' : Hp) : Prop where
  b : SBut x H H'
  o : ∃ fs, H x = some (.ins C dx fs)
theorem Wx.trans {C x dx : Addr} {H H1 H2 : Hp} (a : Wx C x dx H H1) (b : Wx C x dx H1 H2) : Wx C x dx H H2 := ⟨a.b.trans b.b, a.o⟩
theorem Wx.of {C x dx : Addr} {H H' : Hp} {fs : FS} (h : H x = some (.ins C dx fs)) (s : Same H H') : Wx C x dx H H' := ⟨Same.but s, _, h⟩
theorem Wx.up {C x dx : Addr} {H : Hp} {fs : FS} {o : HO} (h : H x = some (.ins C dx fs)) : Wx C x dx H (upd H x o) := ⟨SBut.upd, _, h⟩
theorem Wx.T {C x dx a : Addr} {H H' : Hp} {K : PySem.W.Frag} {xs : List V} (w : Wx C x dx H H') (h : SqT K H a xs) : SqT K H' a xs := let ⟨_, e⟩ := w.o; sqT_but w.b e noTup_ins h
theorem Wx.L {C x dx a : Addr} {H H' : Hp} {K : PySem.W.Frag} {xs : List V} (w : Wx C x dx H H') (h : SqL K H a xs) : SqL K H' a xs := by
  obtain ⟨fs, e⟩ := w.o
  rcases h with (h | ⟨ob, h⟩) | h
  · exact .inl (.inl (w.b _ _ (ne_of h e (fun z => by cases z)) h))
  · exact .inl (.inr ⟨ob, w.b _ _ (ne_of h e (fun z => by cases z)) h⟩)
  · exact .inr h
theorem Wx.C {C x dx a : Addr} {H H' : Hp} {K : PySem.W.Frag} {y : Ct} (w : Wx C x dx H H') (h : CtT K H a y) : CtT K H' a y := let ⟨b, h1, h2⟩ := h; ⟨b, w.T h1, w.T h2⟩
theorem Wx.S {C x dx C' s ds ra : Addr} {H H' : Hp} {K : PySem.W.Frag} {n : Nat} {rs : List Rw} (w : Wx C x dx H H') (ne : s ≠ x) (h : Sy K C' H s ds ra n rs) : Sy K C' H' s ds ra n rs := ⟨w.b _ _ ne h.ob, w.T h.rt, fun r hr => w.C (h.ok r hr)⟩

/-- a Budget and an Examination in memory -/
def Bu (A : Ad) (H : Hp) (b db : Addr) (k : Int) : Prop := ∃ fs, H b = some (.ins A.C_Budget db fs) ∧ fs.length ≤ 6 ∧ fs.lookup ("looks" : Str) = some (.int k) ∧ fs.lookup ("spend" : Str) = none
/-- no field has a method's name -/
def NoM (fs : FS) : Prop := fs.lookup ("take" : Str) = none ∧ fs.lookup ("look" : Str) = none
structure ExO (A : Ad) (H : Hp) (x dx l t s : Addr) (n : Nat) (fs : FS) : Prop where
  ob : H x = some (.ins A.C_Examination dx fs)
  ln : fs.length ≤ n
  l : fs.lookup ("left" : Str) = some (.ref l)
  t : fs.lookup ("trails" : Str) = some (.ref t)
  s : fs.lookup ("steps" : Str) = some (.ref s)
/-- a system without variables that is not reduced to the impossible one -/
def Pl (A : Ad) (K : PySem.W.Frag) (H : Hp) (a : Addr) : Prop := ∃ (dx ra : Addr) (rs : List Rw), Sy K A.C_System H a dx ra 0 rs ∧ (∀ r ∈ rs, Wf 0 r.2) ∧ rs.length ≤ 5000 ∧ rrows 0 [] (cts rs) ≠ [imp 0]
theorem Pl.same {A : Ad} {K : PySem.W.Frag} {H H' : Hp} {a : Addr} (h : Pl A K H a) (s : Same H H') : Pl A K H' a := let ⟨dx, ra, rs, h1, h2⟩ := h; ⟨dx, ra, rs, h1.same s, h2⟩
def sp_Budget___init__ (A : Ad) (K : PySem.W.Frag) : Sp := fun vs H Q _ => ∃ (x dx : Addr) (e : Int), vs = [.ref x, .int e] ∧ H x = some (.ins A.C_Budget dx []) ∧ 1 ≤ e ∧ e ≤ 30 ∧ ∀ H', SBut x H H' → Bu A H' x dx e → Q .non H'
def sp_Budget_spend (A : Ad) (K : PySem.W.Frag) : Sp := fun vs H Q _ => ∃ (b db : Addr) (k : Int), vs = [.ref b] ∧ Bu A H b db k ∧ 1 ≤ k ∧ k ≤ 30 ∧ ∀ H', SBut b H H' → Q (.bl true) H'
def sp_Examination___init__ (A : Ad) (K : PySem.W.Frag) : Sp := fun vs H Q _ => ∃ x dx a, vs = [.ref x, .ref a] ∧ H x = some (.ins A.C_Examination dx []) ∧ ∀ H' l t s fs, SBut x H H' → ExO A H' x dx l t s 3 fs → NoM fs → SqT K H' l [.ref a] → SqT K H' t [.non] → SqT K H' s [] → Q .non H'
def sp_Examination_take (A : Ad) (K : PySem.W.Frag) : Sp := fun vs H Q _ => ∃ x sts dx l t s fs a, vs = [.ref x, .ref sts] ∧ ExO A H x dx l t s 3 fs ∧ SqT K H l [.ref a] ∧ SqT K H t [.non] ∧ SqT K H s [] ∧ Im A K H a ∧ Cls1 K H sts ∧
  ∀ H' l' t' s' fs', SBut x H H' → ExO A H' x dx l' t' s' 6 fs' → SqT K H' l' [] → SqT K H' t' [] → Cls1 K H' s' → Q (.bl true) H'
def sp_lifted (A : Ad) (K : PySem.W.Frag) : Sp := fun vs H Q _ => ∃ p, vs = [.ref p, .non] ∧ Q (.ref p) H
def sp_Examination_look (A : Ad) (K : PySem.W.Frag) : Sp := fun vs H Q _ => ∃ x dx l t s fs a, vs = [.ref x] ∧ ExO A H x dx l t s 3 fs ∧ NoM fs ∧ SqT K H l [.ref a] ∧ SqT K H t [.non] ∧ SqT K H s [] ∧
  ((Im A K H a ∧ ∀ H' l' t' s' fs', SBut x H H' → ExO A H' x dx l' t' s' 6 fs' → SqT K H' l' [] → SqT K H' t' [] → Cls1 K H' s' → Q .non H') ∨ (Pl A K H a ∧ ∀ H' p, Same H H' → SqT K H' p [] → Q (.ref p) H'))
section
variable {w : World} {K : PySem.W.Frag} {mg : Str → Option Value} {base : Heap} {A : Ad}
theorem ok_lifted (T : Txt K mg A) : FnOk P w K mg base CX0 1 A.f_lifted A.d_lifted ["point", "trail"] (sp_lifted A K) := by
  refine T.F_lifted.ok sc_lifted (fun vs H Q E h => ?_) (fun cdv A' outer s H vs Q E hr h => ?_)
  · obtain ⟨p, rfl, _⟩ := h
    rfl
  · obtain ⟨p, rfl, q⟩ := h
    refine ⟨_, (pss_cons (ps_while PassesOwn.never (pt_cmpR op_notN (pv 1) pe_non (nomark _)) 
      (pss_cons ps_never 
      (pss_one ps_never))) 
    (pss_one (ps_ret (pv 0)))), ?_⟩
    walk_at "wp"
    refine loopw (fun m σ H' => H' = H ∧ σ = [some (V.ref p), some V.non, none, none, none]) 0 ⟨rfl, rfl⟩ ?_
    rintro m σ H1 ⟨rfl, rfl⟩
    walk_at "wp"
    exact q
theorem ok_Budget___init__ (T : Txt K mg A) : FnOk P w K mg base CX0 1 A.f_Budget___init__ A.d_Budget___init__ ["self", "effort"] (sp_Budget___init__ A K) := by
  refine T.F_Budget___init__.ok sc_Budget___init__ (fun vs H Q E h => ?_) (fun cdv A' outer s H vs Q E hr h => ?_)
  · obtain ⟨x, dx, e, rfl, _⟩ := h
    rfl
  · obtain ⟨x, dx, e, rfl, hO, h1, h2, q⟩ := h
    refine ⟨_, (pss_one (ps_fld (pv 0) (pe_callB (call_min2 rfl) (by rfl) T.b_min (by decide +kernel) (pa_cons (pv 1) (pa_cons (pe_glob (v := .int 2000) rfl T.g_MOST_EFFORT ⟨_, rfl⟩) pa_nil))) rfl)), ?_⟩
    walk_at "wp"
    have pl := putF_len ("looks" : Str) (.int e) []
    change (putF ("looks" : Str) (.int e) []).length ≤ 1 at pl
    rw [if_neg (show ¬ 2000 < e by omega)]
    exact ⟨_, _, _, hO, T.cl_Budget, T.na_Budget_looks, by decide, q _ SBut.upd ⟨_, upd_same, by omega, lp_eq, lp_ne (by decide +kernel)⟩⟩
theorem ok_Budget_spend (T : Txt K mg A) : FnOk P w K mg base CX0 1 A.f_Budget_spend A.d_Budget_spend ["self"] (sp_Budget_spend A K) := by
  refine T.F_Budget_spend.ok sc_Budget_spend (fun vs H Q E h => ?_) (fun cdv A' outer s H vs Q E hr h => ?_)
  · obtain ⟨b, db, k, rfl, _⟩ := h
    rfl
  · obtain ⟨b, db, k, rfl, ⟨fs, hO, hl, hk, _⟩, h1, h2, q⟩ := h
    refine ⟨_, (pss_cons (ps_if (pt_cmpR op_eq (pe_fld (pv 0) rfl) pe_int (nomark _)) 
      (pss_one (ps_ret pe_bl)) pss_nil) 
    (pss_cons (ps_fldaug (pv 0) pe_int ip_sub) 
    (pss_one (ps_ret pe_bl)))), ?_⟩
    walk_at "wp"
    refine ⟨_, _, _, hO, T.cl_Budget, T.na_Budget_looks, _, hk, rfl, ?_⟩
    rw [if_neg (by rw [dec_ii, decide_eq_true_eq]; omega)]
    exact ⟨_, _, _, hO, T.cl_Budget, T.na_Budget_looks, _, hk, k, rfl, db, fs, hO, by omega, q _ SBut.upd⟩
theorem ok_Examination___init__ (T : Txt K mg A) : FnOk P w K mg base CX0 1 A.f_Examination___init__ A.d_Examination___init__ ["self", "system"] (sp_Examination___init__ A K) := by
  refine T.F_Examination___init__.ok sc_Examination___init__ (fun vs H Q E h => ?_) (fun cdv A' outer s H vs Q E hr h => ?_)
  · obtain ⟨x, dx, a, rfl, _⟩ := h
    rfl
  · obtain ⟨x, dx, a, rfl, hO, q⟩ := h
    refine ⟨_, (pss_cons (ps_fld (pv 0) (pe_tup (pa_cons (pv 1) pa_nil)) rfl) 
    (pss_cons (ps_fld (pv 0) (pe_tup (pa_cons pe_non pa_nil)) rfl) 
    (pss_one (ps_fld (pv 0) (pe_tup pa_nil) rfl)))), ?_⟩
    walk_at "wp"
    have f1 := putF_len ("left" : Str)
    have f2 := putF_len ("trails" : Str)
    have f3 := putF_len ("steps" : Str)
    have up : ∀ {G : Hp} {o : HO} {p : Addr} {y : HO}, G x = some y → G p = none → upd G p o x = some y := fun {G o p y} e n => by
      rw [upd_ne (ne_of_none e n)]
      exact e
    refine ⟨by decide, fun p1 n1 => ⟨_, _, _, up hO n1, T.cl_Examination, T.na_Examination_left, by decide, by decide, fun p2 n2 => ?_⟩⟩
    refine ⟨_, _, _, up upd_same n2, T.cl_Examination, T.na_Examination_trails, by have := f1 (.ref p1) []; dsimp only [List.length_nil] at this; omega, by decide, fun p3 n3 => ?_⟩
    refine ⟨_, _, _, up upd_same n3, T.cl_Examination, T.na_Examination_steps, by have := f1 (.ref p1) []; have := f2 (.ref p2) (putF ("left" : Str) (.ref p1) []); dsimp only [List.length_nil] at *; omega, ?_⟩
    have nt : ∀ {o : List (Str × V)} {ys : List V}, HO.ins A.C_Examination dx o ≠ HO.tup ys := fun {o ys} z => by cases z
    have w1 : SBut x H _ := Same.but (same_upd (o := .tup [V.ref a]) n1)
    have e1 : SqT K (upd H p1 (.tup [V.ref a])) p1 [V.ref a] := SqT.of upd_same
    have x1 := up (o := .tup [V.ref a]) hO n1
    have W2 := Wx.up (o := .ins A.C_Examination dx (putF ("left" : Str) (.ref p1) [])) x1
    generalize upd H p1 (.tup [V.ref a]) = G1 at *
    have x2 : upd G1 x (.ins A.C_Examination dx (putF ("left" : Str) (.ref p1) [])) x = _ := upd_same
    have e1 := W2.T e1
    have w2 := w1.trans W2.b
    generalize upd G1 x (.ins A.C_Examination dx (putF ("left" : Str) (.ref p1) [])) = G2 at *
    have s3 := same_upd (o := .tup [V.non]) n2
    have e1 := sameT s3 e1
    have e2 : SqT K (upd G2 p2 (.tup [V.non])) p2 [V.non] := SqT.of upd_same
    have w3 := w2.trans (Same.but s3)
    have x3 := s3 _ _ x2
    generalize upd G2 p2 (.tup [V.non]) = G3 at *
    have W4 := Wx.up (o := .ins A.C_Examination dx (putF ("trails" : Str) (.ref p2) (putF ("left" : Str) (.ref p1) []))) x3
    have x4 : upd G3 x (.ins A.C_Examination dx (putF ("trails" : Str) (.ref p2) (putF ("left" : Str) (.ref p1) []))) x = _ := upd_same
    have e1 := W4.T e1
    have e2 := W4.T e2
    have w4 := w3.trans W4.b
    generalize upd G3 x (.ins A.C_Examination dx (putF ("trails" : Str) (.ref p2) (putF ("left" : Str) (.ref p1) []))) = G4 at *
    have s5 := same_upd (o := .tup []) n3
    have e1 := sameT s5 e1
    have e2 := sameT s5 e2
    have e3 : SqT K (upd G4 p3 (.tup [])) p3 [] := SqT.of upd_same
    have w5 := w4.trans (Same.but s5)
    have x5 := s5 _ _ x4
    generalize upd G4 p3 (.tup []) = G5 at *
    have W6 := Wx.up (o := .ins A.C_Examination dx (putF ("steps" : Str) (.ref p3) (putF ("trails" : Str) (.ref p2) (putF ("left" : Str) (.ref p1) [])))) x5
    refine q _ p1 p2 p3 _ (w5.trans W6.b) ⟨upd_same, ?_, ?_, ?_, lp_eq⟩ ⟨(lp_ne (by decide +kernel)).trans ((lp_ne (by decide +kernel)).trans (lp_ne (by decide +kernel))), (lp_ne (by decide +kernel)).trans ((lp_ne (by decide +kernel)).trans (lp_ne (by decide +kernel)))⟩ (W6.T e1) (W6.T e2) (W6.T e3)
    · have a1 := f1 (.ref p1) []
      have a2 := f2 (.ref p2) (putF ("left" : Str) (.ref p1) [])
      have a3 := f3 (.ref p3) (putF ("trails" : Str) (.ref p2) (putF ("left" : Str) (.ref p1) []))
      dsimp only [List.length_nil] at a1
      omega
    · exact lp_of (by decide +kernel) (lp_of (by decide +kernel) lp_eq)
    · exact lp_of (by decide +kernel) lp_eq
theorem ok_Examination_take (T : Txt K mg A) : FnOk P w K mg base CX0 10 A.f_Examination_take A.d_Examination_take ["self", "steps"] (sp_Examination_take A K) := by
  have G_left_behind := ok_left_behind (w := w) (base := base) T
  refine T.F_Examination_take.ok sc_Examination_take (fun vs H Q E h => ?_) (fun cdv A' outer s H vs Q E hr h => ?_)
  · obtain ⟨x, sts, dx, l, t, s, fs, a, rfl, _⟩ := h
    rfl
  · obtain ⟨x, sts, dx, l, t, s, fs, a, rfl, hE, hL, hT, hS, hI, hC, q⟩ := h
    refine ⟨_, (pss_cons (ps_try_thru0 (pss_one (ps_set (i := 2) sc_Examination_take.nd rfl (Or.inl rfl) (pe_call G_left_behind hr (by rfl) T.g_left_behind T.F_left_behind.kp T.B_left_behind .nil pass0 (pa_cons (pe_fld (pv 0) rfl) (pa_cons (pv 1) (pa_cons (pe_glob (v := .ref A.f_made_by) rfl T.g_made_by rfl) pa_nil))))))) 
    (pss_cons (ps_setLc (i := 3) (own := [("index", 4)]) (by rfl) sc_Examination_take.nd rfl rfl (sw_true rfl rfl rfl (by decide +kernel)) (pi_range1 (by rfl) T.b_range (pa_cons (pe_op op_add (pe_op op_sub (pe_callB call_len_seq (by rfl) T.b_len (by decide +kernel) (pa_cons (pv 2) pa_nil)) (pe_callB call_len_seq (by rfl) T.b_len (by decide +kernel) (pa_cons (pe_fld (pv 0) rfl) pa_nil))) pe_int) pa_nil)) (blkOk_by (own := [("index", 4)]) (N := ["self", "steps", "left", "trails", "index"]) (sc := defScope s_Examination_take) (by decide +kernel)) (fun _ _ _ _ _ => (pg_name (i := 4) sc_Examination_take.nd rfl (Or.inl rfl) (Or.inr rfl))) (fun _ _ _ _ _ => pts_nil) (fun _ _ _ _ _ => pe_never)) 
    (pss_cons (ps_fld (pv 0) (pv 2) rfl) 
    (pss_cons (ps_fld (pv 0) (pe_op op_catA (pe_callTy call_tuple_of (by rfl) T.b_tuple (by decide +kernel) (pa_cons (pv 3) pa_nil)) (pe_slice sl_tupA (pe_fld (pv 0) rfl) (po_some pe_int) po_none)) rfl) 
    (pss_cons (ps_fld (pv 0) (pe_op op_catA (pe_fld (pv 0) rfl) (pv 1)) rfl) 
    (pss_one (ps_ret pe_bl))))))), ?_⟩
    walk_at "wp"
    refine ⟨_, _, _, hE.ob, T.cl_Examination, T.na_Examination_left, _, hE.l, l, a, sts, rfl, hL, hI, hC, fun H1 p s1 h1 => ⟨p, rfl, _, .inr h1, A.C_Examination, dx, fs, s1 _ _ hE.ob, T.cl_Examination, T.na_Examination_left, _, hE.l, l, rfl, _, .inr (sameT s1 hL), by dsimp only [List.length_cons, List.length_nil]; decide, by dsimp only [List.length_cons, List.length_nil]; decide, fun D nD => ?_⟩⟩
    refine loopc_it (walk_range0 (n := 0)) (fun i H' => Same H1 H' ∧ H' D = some (.lst [])) ⟨same_upd nD, upd_same⟩ (fun _ _ _ _ => trivial) ?_ ?_
    · rintro i x H2 H3 hi
      exact absurd hi (Nat.not_lt_zero _)
    · rintro H2 ⟨s2, e2⟩
      have x2 := s2 _ _ (s1 _ _ hE.ob)
      have ln := hE.ln
      have W3 := Wx.up (o := .ins A.C_Examination dx (putF ("left" : Str) (.ref p) fs)) x2
      obtain ⟨st, c1, c2⟩ := hC.same (s1.trans s2)
      have l1 := putF_len ("left" : Str) (.ref p) fs
      have t1 : (putF ("left" : Str) (.ref p) fs).lookup ("trails" : Str) = some (.ref t) := lp_of (by decide +kernel) hE.t
      have t2 : (putF ("left" : Str) (.ref p) fs).lookup ("steps" : Str) = some (.ref s) := lp_of (by decide +kernel) hE.s
      have t3 : (putF ("left" : Str) (.ref p) fs).lookup ("left" : Str) = some (.ref p) := lp_eq
      refine ⟨_, _, _, x2, T.cl_Examination, T.na_Examination_left, by omega, [], .inl ⟨W3.L (SqL.of e2), fun l2 n2 => ?_⟩⟩
      have x3 : upd H2 x (.ins A.C_Examination dx (putF ("left" : Str) (.ref p) fs)) x = _ := upd_same
      have w3 : SBut x H _ := (Same.but (s1.trans s2)).trans W3.b
      have hp3 := W3.T (sameT s2 h1)
      have c1 := W3.T c1
      have c2 := W3.T c2
      have hT3 := W3.T (sameT (s1.trans s2) hT)
      have hS3 := W3.T (sameT (s1.trans s2) hS)
      generalize upd H2 x (.ins A.C_Examination dx (putF ("left" : Str) (.ref p) fs)) = G3 at *
      generalize putF ("left" : Str) (.ref p) fs = fs1 at *
      have s4 := same_upd (o := .tup []) n2
      have e4 : SqT K (upd G3 l2 (.tup [])) l2 [] := SqT.of upd_same
      generalize upd G3 l2 (.tup []) = G4 at *
      refine ⟨_, _, _, s4 _ _ x3, T.cl_Examination, T.na_Examination_trails, _, t1, sl_rest1 (sameT s4 hT3) fun H5 p5 s5 h5 => cat_sm (sameT s5 e4) h5 (by decide) fun H6 p6 s6 h6 => ?_⟩
      have s36 := (s4.trans s5).trans s6
      have x6 := s36 _ _ x3
      have l2' := putF_len ("trails" : Str) (.ref p6) fs1
      have u1 : (putF ("trails" : Str) (.ref p6) fs1).lookup ("left" : Str) = some (.ref p) := lp_of (by decide +kernel) t3
      have u2 : (putF ("trails" : Str) (.ref p6) fs1).lookup ("steps" : Str) = some (.ref s) := lp_of (by decide +kernel) t2
      have u3 : (putF ("trails" : Str) (.ref p6) fs1).lookup ("trails" : Str) = some (.ref p6) := lp_eq
      have W7 := Wx.up (o := .ins A.C_Examination dx (putF ("trails" : Str) (.ref p6) fs1)) x6
      refine ⟨_, _, _, x6, T.cl_Examination, T.na_Examination_trails, by omega, ?_⟩
      have x7 : upd H6 x (.ins A.C_Examination dx (putF ("trails" : Str) (.ref p6) fs1)) x = _ := upd_same
      have w7 := (w3.trans (Same.but s36)).trans W7.b
      have hp7 := W7.T (sameT s36 hp3)
      have c1 := W7.T (sameT s36 c1)
      have c2 := W7.T (sameT s36 c2)
      have hS7 := W7.T (sameT s36 hS3)
      have h67 := W7.T h6
      generalize upd H6 x (.ins A.C_Examination dx (putF ("trails" : Str) (.ref p6) fs1)) = G7 at *
      generalize putF ("trails" : Str) (.ref p6) fs1 = fs2 at *
      refine ⟨_, _, _, x7, T.cl_Examination, T.na_Examination_steps, _, u2, ?_⟩
      refine cat_sm hS7 c1 (by dsimp only [List.length_cons, List.length_nil]; decide) fun H8 p8 s8 h8 => ?_
      have x8 := s8 _ _ x7
      have l3 := putF_len ("steps" : Str) (.ref p8) fs2
      have W9 := Wx.up (o := .ins A.C_Examination dx (putF ("steps" : Str) (.ref p8) fs2)) x8
      refine ⟨_, _, _, x8, T.cl_Examination, T.na_Examination_steps, by omega, ?_⟩
      exact q _ p p6 p8 _ ((w7.trans (Same.but s8)).trans W9.b) ⟨upd_same, by omega, lp_of (by decide +kernel) u1, lp_of (by decide +kernel) u3, lp_eq⟩ (W9.T (sameT s8 hp7)) (W9.T (sameT s8 h67)) ⟨st, W9.T h8, W9.T (sameT s8 c2)⟩
theorem ok_Examination_look (T : Txt K mg A) : FnOk P w K mg base CX0 11 A.f_Examination_look A.d_Examination_look ["self"] (sp_Examination_look A K) := by
  have G_System_is_impossible := ok_System_is_impossible (w := w) (base := base) T
  have G_System_reduced := ok_System_reduced (w := w) (base := base) T
  have G_Examination_take := ok_Examination_take (w := w) (base := base) T
  have G_lifted := ok_lifted (w := w) (base := base) T
  refine T.F_Examination_look.ok sc_Examination_look (fun vs H Q E h => ?_) (fun cdv A' outer s H vs Q E hr h => ?_)
  · obtain ⟨x, dx, l, t, s, fs, a, rfl, _⟩ := h
    rfl
  · obtain ⟨x, dx, l, t, s, fs, a, rfl, hE, hM, hL, hT, hS, hq⟩ := h
    refine ⟨_, (pss_cons (ps_set (i := 1) sc_Examination_look.nd rfl (Or.inl rfl) (pe_ix ix_tup (pe_fld (pv 0) rfl) pe_int (fun _ _ => rfl))) 
    (pss_cons (ps_if (pt_val (pe_prop (pe_meth0 (pv 1) T.cl_System T.me_System_reduced G_System_reduced (hr.mono (by decide)) T.B_System_reduced .nil pass0) T.cl_System T.pr_System_is_impossible G_System_is_impossible (hr.mono (by decide)) T.B_System_is_impossible .nil pass0 rfl)) 
      (pss_cons (ps_expr (pe_meth (pv 0) T.cl_Examination T.me_Examination_take G_Examination_take hr T.B_Examination_take .nil pass0 (pa_cons (pe_tup (pa_cons (pe_tup (pa_cons pe_str pa_nil)) pa_nil)) pa_nil))) 
      (pss_one (ps_ret pe_non))) pss_nil) 
    (pss_cons (ps_if (pt_cmpR op_eq (pe_fld (pv 1) rfl) pe_int (nomark _)) 
      (pss_one (ps_ret (pe_call G_lifted (hr.mono (by decide)) (by rfl) T.g_lifted T.F_lifted.kp T.B_lifted .nil pass0 (pa_cons (pe_tup pa_nil) (pa_cons (pe_ix ix_tup (pe_fld (pv 0) rfl) pe_int (fun _ _ => rfl)) pa_nil))))) pss_nil) 
    (pss_cons ps_never 
    (pss_cons ps_never 
    (pss_cons ps_never 
    (pss_cons ps_never 
    (pss_cons ps_never 
    (pss_cons ps_never 
    (pss_cons ps_never 
    (pss_cons ps_never 
    (pss_one (ps_ret pe_non))))))))))))), ?_⟩
    walk_at "wp"
    refine ⟨_, _, _, hE.ob, T.cl_Examination, T.na_Examination_left, _, hE.l, l, rfl, _, hL, _, rfl, a, rfl, ?_⟩
    rcases hq with ⟨hI, q⟩ | ⟨hP, q⟩
    · obtain ⟨sx, ra, n, rs, sy, hW, hn, hr9, hi⟩ := id hI
      refine ⟨sx, _, sy.ob, look_no (by decide +kernel) (by decide +kernel), a, sx, ra, n, rs, rfl, sy, hW, hn, hr9, fun H1 b db rb ss s1 sb e1 => ⟨b, rfl, db, _, sb.ob, b, db, rb, n, ss, rfl, sb, hn, fun H2 s2 => ⟨_, rfl, ?_⟩⟩⟩
      rw [e1, if_pos (decide_eq_true hi)]
      have s12 := s1.trans s2
      refine ⟨dx, fs, s12 _ _ hE.ob, hM.1, by decide, fun p3 n3 => ⟨by decide, fun p4 n4 => ?_⟩⟩
      have s3 := same_upd (o := .tup [V.str (Str.ofString "close")]) n3
      have s4 := same_upd (o := .tup [V.ref p3]) n4
      have sA := (s12.trans s3).trans s4
      exact ⟨x, p4, dx, l, t, s, fs, a, rfl, ⟨sA _ _ hE.ob, hE.ln, hE.l, hE.t, hE.s⟩, sameT sA hL, sameT sA hT, sameT sA hS, hI.same sA, ⟨p3, SqT.of upd_same, sameT s4 (SqT.of upd_same)⟩, fun H' l' t' s' fs' w h1 h2 h3 h4 => q _ l' t' s' fs' ((Same.but sA).trans w) h1 h2 h3 h4⟩
    · obtain ⟨sx, ra, rs, sy, hW, hr9, hi⟩ := id hP
      refine ⟨sx, _, sy.ob, look_no (by decide +kernel) (by decide +kernel), a, sx, ra, 0, rs, rfl, sy, hW, by decide, hr9, fun H1 b db rb ss s1 sb e1 => ⟨b, rfl, db, _, sb.ob, b, db, rb, 0, ss, rfl, sb, by decide, fun H2 s2 => ⟨_, rfl, ?_⟩⟩⟩
      rw [e1, if_neg (by rw [decide_eq_true_eq]; exact hi)]
      have s12 := s1.trans s2
      refine ⟨a, rfl, _, _, _, s12 _ _ sy.ob, T.cl_System, T.na_System_variables, _, look_var, rfl, ?_⟩
      rw [if_pos (by rw [dec_ii]; rfl)]
      refine ⟨by decide, fun p3 n3 => ?_⟩
      have s3 := same_upd (o := .tup []) n3
      have sA := s12.trans s3
      exact ⟨_, _, _, sA _ _ hE.ob, T.cl_Examination, T.na_Examination_trails, _, hE.t, t, rfl, _, sameT sA hT, _, rfl, p3, rfl, q _ _ sA (SqT.of upd_same)⟩
end
local macro_rules | `(tactic| walk_at "wp") => `(tactic| simp only [tSeq, tCKw, tAsg, tPar, gName, gTup, gCons, gNil, tVar, tC, tOp, tUn, rI, rI0, rU, tCB, tCons, tNil, tIfS, tRet, tRetN, tNext, tNever, test_eq, tB, tTup, tLst, tCall, L2.tCallN, tCallL, tCallS, tCallLS, tMakeS, tAddS, tChain, rNotInO, rInO, iEnumT, iEnum, rIsnotB, rIsB, iZipM, tMkO, tThru, sFldAug, ipI, tIf, tAndV, tOrV, tNotV, tNot, tAnd, tOr, rEq, rNe, scal_ii, scal_ss, scal_bb, dec_ii, dec_ss, dec_bb, for_eq, lc_eq, lc2_eq, while_eq, tDrop, tYes, iList, iTup, iOr, tDNewN, tNSet, rNSet, sFld, tFld, tMake, tProp, tMeth, cxP, cxW, iStr, iRng1, iRng2, RZ.iZipA, L2.start, rIxL, rIxT, rIxS, rSlS, cxK, tSl, tPart, tNoPart, tBM, tBM0, rAppend, rExtend, rRepS, rGcd, s_ge_eq, s_ge_div, s_eq_ge, s_eq_div, s_div_ge, s_div_eq, gSub, rSetL, tAug, ipI, rAdd, rSub, tM1, tM0,
  List.map_cons, List.map_nil, List.length_cons, List.length_nil, List.cons_append, List.nil_append, List.append_nil, List.getElem?_cons_succ, List.getElem?_cons_zero, List.set_cons_succ, List.set_cons_zero, Nat.reduceAdd, Nat.reduceSub, List.replicate_succ, List.replicate_zero, wipe,
  Option.some.injEq, V.int.injEq, V.str.injEq, sgn_eq, V.ref.injEq, V.bl.injEq, exists_eq_left, exists_eq_left', exists_and_left, exists_eq_right, List.cons.injEq, and_true, true_and, ex_bl, ex_int, exists_const, Nat.zero_add, Int.toNat_natCast, Int.zero_add, and_assoc, reduceCtorEq, false_and, and_false, exists_false, or_false, false_or, eq_self, decide_true, decide_false, ite_true, ite_false, if_true, if_false, Bool.false_eq_true, Bool.not_true, Bool.not_false, ↓reduceIte])
theorem ex_make {A : Ad} {K : PySem.W.Frag} {H1 : Hp} {a : Addr} {Qa : Addr → Hp → Prop} {E : XK}
    (k : ∀ H2 x dx l t s fs, H1 x = none → Same H1 H2 → ExO A H2 x dx l t s 3 fs → NoM fs → SqT K H2 l [.ref a] → SqT K H2 t [.non] → SqT K H2 s [] → Qa x H2) :
    ∀ x dx, H1 x = none → H1 dx = none → dx ≠ x → sp_Examination___init__ A K (.ref x :: ([.ref a] ++ [])) (upd (upd H1 dx (.own x)) x (.ins A.C_Examination dx [])) (fun v H2 => v = .non ∧ Qa x H2) E := by
  intro x dx nx ndx ne
  have s1 : Same H1 (upd (upd H1 dx (.own x)) x (.ins A.C_Examination dx [])) := fun b o e => by
    rw [upd_ne (ne_of_none e nx), upd_ne (ne_of_none e ndx)]
    exact e
  exact ⟨x, dx, a, rfl, upd_same, fun H' l t s fs b h1 h2 h3 h4 h5 => ⟨rfl, k H' x dx l t s fs nx (SBut.same b s1 nx) h1 h2 h3 h4 h5⟩⟩
theorem bu_make {A : Ad} {K : PySem.W.Frag} {H1 : Hp} {e : Int} {Qa : Addr → Hp → Prop} {E : XK} (h1 : 1 ≤ e) (h2 : e ≤ 30)
    (k : ∀ H2 x dx, H1 x = none → Same H1 H2 → Bu A H2 x dx e → Qa x H2) :
    ∀ x dx, H1 x = none → H1 dx = none → dx ≠ x → sp_Budget___init__ A K (.ref x :: ([.int e] ++ [])) (upd (upd H1 dx (.own x)) x (.ins A.C_Budget dx [])) (fun v H2 => v = .non ∧ Qa x H2) E := by
  intro x dx nx ndx ne
  have s1 : Same H1 (upd (upd H1 dx (.own x)) x (.ins A.C_Budget dx [])) := fun b o e => by
    rw [upd_ne (ne_of_none e nx), upd_ne (ne_of_none e ndx)]
    exact e
  exact ⟨x, dx, e, rfl, upd_same, h1, h2, fun H' b hB => ⟨rfl, k H' x dx nx (SBut.same b s1 nx) hB⟩⟩
def sp_examined (A : Ad) (K : PySem.W.Frag) : Sp := fun vs H Q _ => ∃ a b db k, vs = [.ref a, .ref b] ∧ Bu A H b db k ∧ 1 ≤ k ∧ k ≤ 30 ∧
  ((Im A K H a ∧ ∀ H' r pp, SBut b H H' → SqT K H' r [.str (Str.ofString "refutation"), .ref pp] → Cls1 K H' pp → Q (.ref r) H') ∨ (Pl A K H a ∧ ∀ H' r qq, SBut b H H' → SqT K H' r [.str (Str.ofString "point"), .ref qq] → SqT K H' qq [] → Q (.ref r) H'))
def sp_examine (A : Ad) (K : PySem.W.Frag) : Sp := fun vs H Q _ => ∃ a e, vs = [.ref a, .int e] ∧ 1 ≤ e ∧ e ≤ 30 ∧
  ((Im A K H a ∧ ∀ H' r pp, Same H H' → SqT K H' r [.str (Str.ofString "refutation"), .ref pp] → Cls1 K H' pp → Q (.ref r) H') ∨ (Pl A K H a ∧ ∀ H' r qq, Same H H' → SqT K H' r [.str (Str.ofString "point"), .ref qq] → SqT K H' qq [] → Q (.ref r) H'))
theorem ne_bu {A : Ad} {K : PySem.W.Frag} {H : Hp} {b db a dx ra : Addr} {k : Int} {n : Nat} {rs : List Rw} (h : Bu A H b db k) (sy : Sy K A.C_System H a dx ra n rs) : a ≠ b := fun z => by
  obtain ⟨fs, e, _, h1, _⟩ := h
  have e1 := sy.ob
  rw [z, e] at e1
  injection e1 with e1
  injection e1 with _ _ e3
  rw [e3] at h1
  rw [look_no (by decide +kernel) (by decide +kernel)] at h1
  cases h1
theorem Im.wx {A : Ad} {K : PySem.W.Frag} {H H' : Hp} {b db a : Addr} {k : Int} (h : Bu A H b db k) (w : Wx A.C_Budget b db H H') (i : Im A K H a) : Im A K H' a := let ⟨dx, ra, n, rs, sy, r⟩ := i; ⟨dx, ra, n, rs, w.S (ne_bu h sy) sy, r⟩
theorem Pl.wx {A : Ad} {K : PySem.W.Frag} {H H' : Hp} {b db a : Addr} {k : Int} (h : Bu A H b db k) (w : Wx A.C_Budget b db H H') (i : Pl A K H a) : Pl A K H' a := let ⟨dx, ra, rs, sy, r⟩ := i; ⟨dx, ra, rs, w.S (ne_bu h sy) sy, r⟩
section
variable {w : World} {K : PySem.W.Frag} {mg : Str → Option Value} {base : Heap} {A : Ad}
theorem kb_examine (T : Txt K mg A) : KBn K A.d_examine ["system", "effort"] 1 ["effort"] (fun us ws => us ++ ws) (fun vs zs => vs ++ zs) := by
  refine ⟨fun s us ws hK hu hw => ?_, fun h1 h2 => h1.append h2⟩
  match us, hu with
  | [u], _ =>
    match ws, hw with
    | [w1], _ =>
      obtain ⟨_, _, kV, doc, pm, an, cdv, ct, _, e, _⟩ := T.F_examine.ex
      have eq : bindArgs (PySem.W.fnOf "examine" "examine" (defArgs s_examine) (defBody s_examine) (defScope s_examine) Value.none kV doc pm an cdv ct) { pos := [u], kw := [("effort", w1)] } = (pure [(("system" : Str), u), (("effort" : Str), w1)] : Sem (List (Str × Value))) := rfl
      intro M A1 E1 Q1 q1
      rw [e]
      show wpAny M A1 (bindArgs _ { pos := [u], kw := [("effort", w1)] }) Q1 E1 s
      rw [eq]
      exact wpAny_pure q1
theorem ok_examined (T : Txt K mg A) : FnOk P w K mg base CX0 12 A.f_examined A.d_examined ["system", "budget"] (sp_examined A K) := by
  have G_Examination___init__ := ok_Examination___init__ (w := w) (base := base) T
  have G_Examination_look := ok_Examination_look (w := w) (base := base) T
  have G_Budget_spend := ok_Budget_spend (w := w) (base := base) T
  refine T.F_examined.ok sc_examined (fun vs H Q E h => ?_) (fun cdv A' outer s H vs Q E hr h => ?_)
  · obtain ⟨a, b, db, k, rfl, _⟩ := h
    rfl
  · obtain ⟨a, b, db, k, rfl, hB, h1, h2, hq⟩ := h
    refine ⟨_, (pss_cons (ps_set (i := 2) sc_examined.nd rfl (Or.inl rfl) (pe_make T.mk_Examination G_Examination___init__ (hr.mono (by decide)) (by rfl) T.gC_Examination T.B_Examination___init__ .nil pass0 (pa_cons (pv 0) pa_nil))) 
    (pss_cons (ps_while PassesOwn.never (pt_cmpR op_gt (pe_callB call_len_seq (by rfl) T.b_len (by decide +kernel) (pa_cons (pe_fld (pv 2) rfl) pa_nil)) pe_int (nomark _)) 
      (pss_cons (ps_if (pt_not (pt_val (pe_meth0 (pv 1) T.cl_Budget T.me_Budget_spend G_Budget_spend (hr.mono (by decide)) T.B_Budget_spend .nil pass0))) 
        (pss_one (ps_ret (pe_tup (pa_cons pe_str (pa_cons pe_str pa_nil))))) pss_nil) 
      (pss_cons (ps_set (i := 3) sc_examined.nd rfl (Or.inl rfl) (pe_callB call_len_seq (by rfl) T.b_len (by decide +kernel) (pa_cons (pe_fld (pv 2) rfl) pa_nil))) 
      (pss_cons (ps_set (i := 4) sc_examined.nd rfl (Or.inl rfl) (pe_meth0 (pv 2) T.cl_Examination T.me_Examination_look G_Examination_look hr T.B_Examination_look .nil pass0)) 
      (pss_cons (ps_if (pt_cmpR op_notN (pv 4) pe_non (nomark _)) 
        (pss_one (ps_ret (pe_tup (pa_cons pe_str (pa_cons (pv 4) pa_nil))))) pss_nil) 
      (pss_one (ps_if (pt_cmpR op_eq (pe_callB call_len_seq (by rfl) T.b_len (by decide +kernel) (pa_cons (pe_fld (pv 2) rfl) pa_nil)) (pv 3) (nomark _)) 
        (pss_one (ps_ret (pe_tup (pa_cons pe_str (pa_cons pe_str pa_nil))))) pss_nil))))))) 
    (pss_one (ps_ret (pe_tup (pa_cons pe_str (pa_cons (pe_fld (pv 2) rfl) pa_nil))))))), ?_⟩
    walk_at "wp"
    refine ex_make fun H2 x dx l t s fs nx s2 hE hM hL hT hS => ?_
    rcases hq with ⟨hI, q⟩ | ⟨hP, q⟩
    · refine loopw (fun m σ H' => (m = 1 ∧ H' = H2 ∧ σ = [some (.ref a), some (.ref b), some (.ref x), none, none]) ∨ (m = 0 ∧ ∃ l' t' s' fs' v3 v4, SBut b H H' ∧ ExO A H' x dx l' t' s' 6 fs' ∧ SqT K H' l' [] ∧ Cls1 K H' s' ∧ σ = [some (.ref a), some (.ref b), some (.ref x), v3, v4])) 1 (.inl ⟨rfl, rfl, rfl⟩) ?_
      rintro m σ H' (⟨rfl, rfl, rfl⟩ | ⟨rfl, l', t', s', fs', v3, v4, w, hE', hL', hC', rfl⟩)
      · walk_at "wp"
        refine ⟨_, _, _, hE.ob, T.cl_Examination, T.na_Examination_left, _, hE.l, l, rfl, _, .inr hL, ?_⟩
        rw [if_pos (by rfl)]
        refine turn_of ?_
        walk_at "wp"
        obtain ⟨fsb, eb, lb, kb, nb⟩ := hB
        have nxb : x ≠ b := fun z => by rw [z, eb] at nx; cases nx
        have eb2 := s2 _ _ eb
        have hB2 : Bu A H' b db k := ⟨fsb, eb2, lb, kb, nb⟩
        refine ⟨db, fsb, eb2, nb, b, db, k, rfl, hB2, h1, h2, fun H3 w3 => ⟨true, rfl, ?_⟩⟩
        rw [if_neg (by decide)]
        have W3 : Wx A.C_Budget b db H' H3 := ⟨w3, _, eb2⟩
        have x3 := w3 _ _ nxb hE.ob
        refine ⟨_, _, _, x3, T.cl_Examination, T.na_Examination_steps, _, hE.s, s, rfl, _, .inr (W3.T hS), dx, fs, x3, hM.2, x, dx, l, t, s, fs, a, rfl, ⟨x3, hE.ln, hE.l, hE.t, hE.s⟩, hM, W3.T hL, W3.T hT, W3.T hS, ?_⟩
        refine .inl ⟨(hI.same s2).wx hB2 W3, fun H4 l' t' s' fs' w4 hE4 hL4 hT4 hC4 => ?_⟩
        obtain ⟨st, c1, c2⟩ := hC4
        rw [if_neg (by simp)]
        refine ⟨_, _, _, hE4.ob, T.cl_Examination, T.na_Examination_steps, _, hE4.s, s', rfl, _, .inr c1, ?_⟩
        rw [if_neg (by simp)]
        exact ⟨0, by decide, rfl, fun a' o ne e => w4 _ _ (fun z => by rw [z, nx] at e; cases e) (w3 _ _ ne (s2 _ _ e)), l', t', s', fs', hE4, hL4, ⟨st, c1, c2⟩, _, rfl⟩
      · walk_at "wp"
        refine ⟨_, _, _, hE'.ob, T.cl_Examination, T.na_Examination_left, _, hE'.l, l', rfl, _, .inr hL', ?_⟩
        rw [if_neg (by decide)]
        refine ⟨_, _, _, hE'.ob, T.cl_Examination, T.na_Examination_steps, _, hE'.s, by decide, fun p n => ?_⟩
        have sp := same_upd (o := .tup [V.str (Str.ofString "refutation"), V.ref s']) n
        exact q _ p s' (w.trans (Same.but sp)) (SqT.of upd_same) (hC'.same sp)
    · refine loopw (fun m σ H' => m = 1 ∧ H' = H2 ∧ σ = [some (.ref a), some (.ref b), some (.ref x), none, none]) 1 ⟨rfl, rfl, rfl⟩ ?_
      rintro m σ H' ⟨rfl, rfl, rfl⟩
      walk_at "wp"
      refine ⟨_, _, _, hE.ob, T.cl_Examination, T.na_Examination_left, _, hE.l, l, rfl, _, .inr hL, ?_⟩
      rw [if_pos (by rfl)]
      refine turn_of ?_
      walk_at "wp"
      obtain ⟨fsb, eb, lb, kb, nb⟩ := hB
      have nxb : x ≠ b := fun z => by rw [z, eb] at nx; cases nx
      have eb2 := s2 _ _ eb
      have hB2 : Bu A H' b db k := ⟨fsb, eb2, lb, kb, nb⟩
      refine ⟨db, fsb, eb2, nb, b, db, k, rfl, hB2, h1, h2, fun H3 w3 => ⟨true, rfl, ?_⟩⟩
      rw [if_neg (by decide)]
      have W3 : Wx A.C_Budget b db H' H3 := ⟨w3, _, eb2⟩
      have x3 := w3 _ _ nxb hE.ob
      refine ⟨_, _, _, x3, T.cl_Examination, T.na_Examination_steps, _, hE.s, s, rfl, _, .inr (W3.T hS), dx, fs, x3, hM.2, x, dx, l, t, s, fs, a, rfl, ⟨x3, hE.ln, hE.l, hE.t, hE.s⟩, hM, W3.T hL, W3.T hT, W3.T hS, ?_⟩
      refine .inr ⟨(hP.same s2).wx hB2 W3, fun H4 p s4 h4 => ?_⟩
      dsimp only
      rw [if_pos (by simp)]
      refine ⟨by decide, fun p5 n5 => ?_⟩
      have s5 := same_upd (o := .tup [V.str (Str.ofString "point"), V.ref p]) n5
      exact q _ p5 p (fun a' o ne e => s5 _ _ (s4 _ _ (w3 _ _ ne (s2 _ _ e)))) (SqT.of upd_same) (sameT s5 h4)
theorem ok_examine (T : Txt K mg A) : FnOk P w K mg base CX0 13 A.f_examine A.d_examine ["system", "effort"] (sp_examine A K) := by
  have G_examined := ok_examined (w := w) (base := base) T
  have G_Budget___init__ := ok_Budget___init__ (w := w) (base := base) T
  refine T.F_examine.ok sc_examine (fun vs H Q E h => ?_) (fun cdv A' outer s H vs Q E hr h => ?_)
  · obtain ⟨a, e, rfl, _⟩ := h
    rfl
  · obtain ⟨a, e, rfl, h1, h2, hq⟩ := h
    refine ⟨_, (pss_one (ps_ret (pe_call G_examined hr (by rfl) T.g_examined T.F_examined.kp T.B_examined .nil pass0 (pa_cons (pv 0) (pa_cons (pe_make T.mk_Budget G_Budget___init__ (hr.mono (by decide)) (by rfl) T.gC_Budget T.B_Budget___init__ .nil pass0 (pa_cons (pv 1) pa_nil)) pa_nil))))), ?_⟩
    walk_at "wp"
    refine bu_make h1 h2 fun H2 b db nb s2 hB => ?_
    refine ⟨a, b, db, e, rfl, hB, h1, h2, ?_⟩
    rcases hq with ⟨hI, q⟩ | ⟨hP, q⟩
    · exact .inl ⟨hI.same s2, fun H' r pp w hr hc => q H' r pp (SBut.same w s2 nb) hr hc⟩
    · exact .inr ⟨hP.same s2, fun H' r pp w hr hc => q H' r pp (SBut.same w s2 nb) hr hc⟩
end
local macro_rules | `(tactic| walk_at "wp") => `(tactic| simp only [tSeq, tCKw, tAsg, tPar, gName, gTup, gCons, gNil, tVar, tC, tOp, tUn, rI, rI0, rU, tCB, tCons, tNil, tIfS, tRet, tRetN, tNext, tNever, test_eq, tB, tTup, tLst, tCall, L2.tCallN, tCallL, tCallS, tCallLS, tMakeS, tAddS, tChain, rNotInO, rInO, iEnumT, iEnum, rIsnotB, rIsB, iZipM, tMkO, tThru, sFldAug, ipI, tIf, tAndV, tOrV, tNotV, tNot, tAnd, tOr, rEq, rNe, scal_ii, scal_ss, scal_bb, dec_ii, dec_ss, dec_bb, for_eq, lc_eq, lc2_eq, while_eq, tDrop, tYes, iList, iTup, iOr, tDNewN, tNSet, rNSet, sFld, tFld, tMake, tProp, tMeth, cxP, cxW, iStr, iRng1, iRng2, RZ.iZipA, L2.start, rIxL, rIxT, rIxS, rSlS, cxK, tSl, tPart, tNoPart, tBM, tBM0, rAppend, rExtend, rRepS, rGcd, s_ge_eq, s_ge_div, s_eq_ge, s_eq_div, s_div_ge, s_div_eq, gSub, rSetL, tAug, ipI, rAdd, rSub, tM1, tM0,
  List.map_cons, List.map_nil, List.length_cons, List.length_nil, List.cons_append, List.nil_append, List.append_nil, List.getElem?_cons_succ, List.getElem?_cons_zero, List.set_cons_succ, List.set_cons_zero, Nat.reduceAdd, Nat.reduceSub, List.replicate_succ, List.replicate_zero, wipe,
  Option.some.injEq, V.int.injEq, V.str.injEq, sgn_eq, V.ref.injEq, V.bl.injEq, exists_eq_left, exists_eq_left', exists_and_left, exists_eq_right, List.cons.injEq, and_true, true_and, ex_bl, ex_int, exists_const, Nat.zero_add, Int.toNat_natCast, Int.zero_add, and_assoc, reduceCtorEq, false_and, and_false, exists_false, or_false, false_or, eq_self, decide_true, decide_false, ite_true, ite_false, if_true, if_false, Bool.false_eq_true, Bool.not_true, Bool.not_false, ↓reduceIte])
theorem gl_two : ∀ n, 1 ≤ n → gl 0 (List.replicate n 2) = 2
  | 0, h => absurd h (by decide)
  | 1, _ => rfl
  | n + 2, _ => by
    have e : ∀ m, gl 2 (List.replicate m 2) = 2 := fun m => by
      induction m with
      | zero => rfl
      | succ m ih => rw [List.replicate_succ, gl]; exact ih
    rw [List.replicate_succ, gl]
    exact e _
theorem gl_four : ∀ n, 1 ≤ n → gl 4 (List.replicate n 2) = 2
  | 0, h => absurd h (by decide)
  | n + 1, _ => by
    have e : ∀ m, gl 2 (List.replicate m 2) = 2 := fun m => by
      induction m with
      | zero => rfl
      | succ m ih => rw [List.replicate_succ, gl]; exact ih
    rw [List.replicate_succ, gl]
    exact e _
/-- the constraints that no point fulfils -/
def imK (k : Int) (a : Int) (n : Nat) : Ct := if k = 0 then ⟨.ge, List.replicate n 0, -a⟩ else if k = 1 then ⟨.eq, List.replicate n 2, 2 * a - 1⟩ else ⟨.div 4, List.replicate n 2, 2 * a - 1⟩
theorem imK_red {k a : Int} {n : Nat} (hn : 1 ≤ n) (ha : 1 ≤ a) : red (imK k a n) = some (imp n) := by
  unfold imK
  split
  · simp only [red]
    rw [gl_rep, if_neg (by decide), if_neg (by omega), List.length_replicate]
  · split
    · simp only [red]
      rw [gl_two n hn, if_neg (by omega), if_pos (.inr (by omega)), List.length_replicate]
    · simp only [red]
      have e : (List.replicate n (2 : Int)).map (· % 4) = List.replicate n 2 := by rw [List.map_replicate]; rfl
      rw [e, show (4 : Int).toNat = 4 from rfl, gl_four n hn, if_pos (by omega), List.length_replicate]
theorem imK_wf {k a : Int} {n : Nat} (hn : n ≤ 4) (h1 : 1 ≤ a) (h2 : a ≤ 50) : Wf n (imK k a n) := by
  have big : ∀ z : Int, z.natAbs < 2 ^ 7 → ∀ b, 7 ≤ b → Sz b z := fun z hz b hb => Sz.mono (a := 7) hz hb
  unfold imK
  split
  · refine ⟨trivial, List.length_replicate .., ⟨by dsimp only; rw [List.length_replicate]; omega, fun x hx => ?_, trivial⟩⟩
    rcases List.mem_append.mp hx with h | h
    · rw [(List.mem_replicate.mp h).2]; exact Sz.zero _
    · rw [List.mem_singleton.mp h]; exact big (-a) (by omega) _ (by decide)
  · split
    · refine ⟨trivial, List.length_replicate .., ⟨by dsimp only; rw [List.length_replicate]; omega, fun x hx => ?_, trivial⟩⟩
      rcases List.mem_append.mp hx with h | h
      · rw [(List.mem_replicate.mp h).2]; exact big _ (by decide) _ (by decide)
      · rw [List.mem_singleton.mp h]; exact big (2 * a - 1) (by omega) _ (by decide)
    · refine ⟨show (1 : Int) ≤ 4 by decide, List.length_replicate .., ⟨by dsimp only; rw [List.length_replicate]; omega, fun x hx => ?_, big 4 (by decide) _ (by decide)⟩⟩
      rcases List.mem_append.mp hx with h | h
      · rw [(List.mem_replicate.mp h).2]; exact big _ (by decide) _ (by decide)
      · rw [List.mem_singleton.mp h]; exact big (2 * a - 1) (by omega) _ (by decide)
/-- one impossible row makes the system impossible -/
theorem rrows_imp {n : Nat} {u : Ct} (hu : red u = some (imp n)) : ∀ (rows found : List Ct), u ∈ rows → rrows n found rows = [imp n]
  | [], _, h => by cases h
  | t :: r, found, h => by
    rw [rrows]
    cases e : red t with
    | none =>
      refine rrows_imp hu r found ?_
      rcases List.mem_cons.mp h with rfl | h
      · rw [hu] at e; cases e
      · exact h
    | some v =>
      dsimp only
      by_cases z : v = imp n
      · rw [if_pos z, z]
      · rw [if_neg z]
        refine rrows_imp hu r _ ?_
        rcases List.mem_cons.mp h with rfl | h
        · rw [hu] at e; cases e; exact absurd rfl z
        · exact h
def sp_law_impossible (K : PySem.W.Frag) : Sp := fun vs H Q _ => ∃ (c : Int) (n : Nat), vs = [.int c, .int (n : Int)] ∧ Sz 1048577 c ∧ 1 ≤ n ∧ n ≤ 4 ∧ ∀ H' x (t : Ct), Same H H' → CtT K H' x t → Wf n t → red t = some (imp n) → Q (.ref x) H'
def sp_law_refuted (A : Ad) (K : PySem.W.Frag) : Sp := fun vs H Q _ => ∃ a r pp, vs = [.ref a, .ref r] ∧ Im A K H a ∧ SqT K H r [.str (Str.ofString "refutation"), .ref pp] ∧ Cls1 K H pp ∧ ∀ H', Same H H' → Q (.bl true) H'
def sp_law (K : PySem.W.Frag) : Sp := fun vs H Q _ => ∃ (a : Addr) (ns : List Int), vs = [.ref a] ∧ SqL K H a (ns.map V.int) ∧ (∀ z ∈ ns, Builtin.Int.intBits z ≤ 1048576) ∧ ∀ H', Q (.bl true) H'
theorem sp_law_of {K : PySem.W.Frag} {H : Hp} {a : Addr} {ns : List Int} (_ : ns.length ≤ 63) (hb : ∀ z ∈ ns, Builtin.Int.intBits z ≤ 1048576) (_ : Only H) (hS : SqL K H a (ns.map V.int)) : sp_law K [.ref a] H (fun v _ => v = .bl true) fun _ _ _ => False :=
  ⟨a, ns, rfl, hS, hb, fun _ => rfl⟩
theorem cut_take (xs : List V) (k : Nat) (h : k ≤ xs.length) : cutV xs none (some (k : Int)) = xs.take k := by
  unfold cutV
  rw [HT.sIx_nat, HT.sIx_none, List.drop_zero, Nat.sub_zero, Nat.min_eq_left h]
theorem cut_drop (xs : List V) (k : Nat) (h : k ≤ xs.length) : cutV xs (some (k : Int)) none = xs.drop k := by
  unfold cutV
  rw [HT.sIx_nat, HT.sIx_none, Nat.min_eq_left h, List.take_of_length_le (by rw [List.length_drop]; omega)]
section
variable {w : World} {K : PySem.W.Frag} {mg : Str → Option Value} {base : Heap} {A : Ad}
theorem ok_law_impossible (T : Txt K mg A) : FnOk P w K mg base CX0 1 A.f_law_impossible A.d_law_impossible ["cell", "variables"] (sp_law_impossible K) := by
  refine T.F_law_impossible.ok sc_law_impossible (fun vs H Q E h => ?_) (fun cdv A' outer s H vs Q E hr h => ?_)
  · obtain ⟨c, n, rfl, _⟩ := h
    rfl
  · obtain ⟨c, n, rfl, hc, hn, hn4, q⟩ := h
    refine ⟨_, (pss_cons (ps_set (i := 2) sc_law_impossible.nd rfl (Or.inl rfl) (pe_op op_mod (pe_callTy call_intI (by rfl) T.b_int (by decide +kernel) (pa_cons (pv 0) pa_nil)) pe_int)) 
    (pss_cons (ps_set (i := 3) sc_law_impossible.nd rfl (Or.inl rfl) (pe_op op_add pe_int (pe_op op_mod (pe_op op_fdiv (pe_callTy call_intI (by rfl) T.b_int (by decide +kernel) (pa_cons (pv 0) pa_nil)) pe_int) pe_int))) 
    (pss_cons (ps_set (i := 4) sc_law_impossible.nd rfl (Or.inl rfl) (pe_op op_repA (pe_tup (pa_cons pe_int pa_nil)) (pv 1))) 
    (pss_cons (ps_if (pt_cmpR op_eq (pv 2) pe_int (nomark _)) 
      (pss_one (ps_ret (pe_tup (pa_cons pe_str (pa_cons (pe_op op_catA (pv 4) (pe_tup (pa_cons (pe_un un_neg (pv 3)) pa_nil))) pa_nil))))) pss_nil) 
    (pss_cons (ps_if (pt_cmpR op_eq (pv 2) pe_int (nomark _)) 
      (pss_one (ps_ret (pe_tup (pa_cons pe_str (pa_cons (pe_op op_catA (pe_op op_repA (pe_tup (pa_cons pe_int pa_nil)) (pv 1)) (pe_tup (pa_cons (pe_op op_sub (pe_op op_mulX pe_int (pv 3)) pe_int) pa_nil))) pa_nil))))) pss_nil) 
    (pss_one (ps_ret (pe_tup (pa_cons pe_str (pa_cons pe_int (pa_cons (pe_op op_catA (pe_op op_repA (pe_tup (pa_cons pe_int pa_nil)) (pv 1)) (pe_tup (pa_cons (pe_op op_sub (pe_op op_mulX pe_int (pv 3)) pe_int) pa_nil))) pa_nil))))))))))), ?_⟩
    walk_at "wp"
    have ha1 : 1 ≤ 1 + c / 3 % 50 := by have := Int.emod_nonneg (c / 3) (show (50 : Int) ≠ 0 by decide); omega
    have ha2 : 1 + c / 3 % 50 ≤ 50 := by have := Int.emod_lt_of_pos (c / 3) (show (0 : Int) < 50 by decide); omega
    have fl : ∀ z : Int, (List.replicate n [V.int z]).flatten = (List.replicate n z).map V.int := fun z => by rw [List.map_replicate]; simp
    refine ⟨by decide, ⟨by decide, by decide⟩, by decide, by decide, fun p1 n1 => ⟨p1, n, [V.int 0], rfl, rfl, SqT.of upd_same, by simp, by omega, by simp, fun H2 ta s2 h2 => ?_⟩⟩
    rw [fl] at h2
    have s12 := (same_upd (o := .tup [V.int 0]) n1).trans s2
    generalize 1 + c / 3 % 50 = a at *
    have W := imK_wf (k := c % 3) hn4 ha1 ha2
    have R := imK_red (k := c % 3) hn ha1
    by_cases k0 : c % 3 = 0
    · rw [if_pos (decide_eq_true k0)]
      unfold imK at W R
      rw [if_pos k0] at W R
      refine ⟨by decide, fun p3 n3 => cat_sm (sameT (same_upd n3) h2) (SqT.of upd_same) (by rw [List.length_map, List.length_replicate, List.length_singleton]; omega) fun H4 p4 s4 h4 => ⟨by decide, fun p5 n5 => ?_⟩⟩
      have s5 := same_upd (o := .tup [V.str (Str.ofString "ge"), V.ref p4]) n5
      refine q _ p5 _ ((s12.trans (same_upd n3)).trans (s4.trans s5)) ⟨p4, SqT.of upd_same, sameT s5 ?_⟩ W R
      rw [Ct.e, List.map_append]
      exact h4
    · rw [if_neg (by rw [decide_eq_true_eq]; exact k0)]
      unfold imK at W R
      rw [if_neg k0] at W R
      by_cases k1 : c % 3 = 1
      · rw [if_pos (decide_eq_true k1)]
        rw [if_pos k1] at W R
        refine ⟨by decide, fun p3 n3 => ⟨p3, n, [V.int 2], rfl, rfl, SqT.of upd_same, by simp, by omega, by simp, fun H4 tb s4 h4 => ?_⟩⟩
        rw [fl] at h4
        have s34 := (same_upd (o := .tup [V.int 2]) n3).trans s4
        refine ⟨⟨2, 6, show (2 : Int).natAbs < 2 ^ 2 by decide, show a.natAbs < 2 ^ 6 by omega, by decide⟩, by decide, fun p5 n5 => cat_sm (sameT (same_upd n5) h4) (SqT.of upd_same) (by rw [List.length_map, List.length_replicate, List.length_singleton]; omega) fun H6 p4 s6 h6 => ⟨by decide, fun p7 n7 => ?_⟩⟩
        have s7 := same_upd (o := .tup [V.str (Str.ofString "eq"), V.ref p4]) n7
        refine q _ p7 _ (((s12.trans s34).trans (same_upd n5)).trans (s6.trans s7)) ⟨p4, SqT.of upd_same, sameT s7 ?_⟩ W R
        rw [Ct.e, List.map_append]
        exact h6
      · rw [if_neg (by rw [decide_eq_true_eq]; exact k1)]
        rw [if_neg k1] at W R
        refine ⟨by decide, fun p3 n3 => ⟨p3, n, [V.int 2], rfl, rfl, SqT.of upd_same, by simp, by omega, by simp, fun H4 tb s4 h4 => ?_⟩⟩
        rw [fl] at h4
        have s34 := (same_upd (o := .tup [V.int 2]) n3).trans s4
        refine ⟨⟨2, 6, show (2 : Int).natAbs < 2 ^ 2 by decide, show a.natAbs < 2 ^ 6 by omega, by decide⟩, by decide, fun p5 n5 => cat_sm (sameT (same_upd n5) h4) (SqT.of upd_same) (by rw [List.length_map, List.length_replicate, List.length_singleton]; omega) fun H6 p4 s6 h6 => ⟨by decide, fun p7 n7 => ?_⟩⟩
        have s7 := same_upd (o := .tup [V.str (Str.ofString "div"), V.int 4, V.ref p4]) n7
        refine q _ p7 _ (((s12.trans s34).trans (same_upd n5)).trans (s6.trans s7)) ⟨p4, SqT.of upd_same, sameT s7 ?_⟩ W R
        rw [Ct.e, List.map_append]
        exact h6
theorem ok_law_refuted (T : Txt K mg A) : FnOk P w K mg base CX0 12 A.f_law_refuted A.d_law_refuted ["system", "found"] (sp_law_refuted A K) := by
  have G_refutes := ok_refutes (w := w) (base := base) T
  refine T.F_law_refuted.ok sc_law_refuted (fun vs H Q E h => ?_) (fun cdv A' outer s H vs Q E hr h => ?_)
  · obtain ⟨a, r, pp, rfl, _⟩ := h
    rfl
  · obtain ⟨a, r, pp, rfl, hI, hR, hC, q⟩ := h
    refine ⟨_, (pss_one (ps_ret (pe_and (pe_cmpR op_eq (pe_ix ix_tup (pv 1) pe_int (fun _ _ => rfl)) pe_str (nomark _)) (pe_one (pe_cmpR op_isB (pe_call G_refutes hr (by rfl) T.g_refutes T.F_refutes.kp T.B_refutes .nil pass0 (pa_cons (pv 0) (pa_cons (pe_ix ix_tup (pv 1) pe_int (fun _ _ => rfl)) pa_nil))) pe_bl (nomark _)))))), ?_⟩
    walk_at "wp"
    refine ⟨_, hR, _, rfl, rfl, ?_⟩
    rw [if_pos (decide_eq_true rfl)]
    exact ⟨_, hR, _, rfl, a, pp, rfl, hI, hC, fun H' s => ⟨true, rfl, q _ s⟩⟩
theorem ok_law (T : Txt K mg A) : FnOk P w K mg base CX0 14 A.f_law A.d_law ["script"] (sp_law K) := by
  have G_law_rows := ok_law_rows (w := w) (base := base) T
  have G_System___init__ := ok_System___init__ (w := w) (base := base) T
  have G_examine := ok_examine (w := w) (base := base) T
  have G_law_all_hold := ok_law_all_hold (w := w) (base := base) T
  have G_law_point := ok_law_point (w := w) (base := base) T
  have G_law_refuted := ok_law_refuted (w := w) (base := base) T
  have G_law_cell := ok_law_cell (w := w) (base := base) T
  have G_law_impossible := ok_law_impossible (w := w) (base := base) T
  refine T.F_law.ok sc_law (fun vs H Q E h => ?_) (fun cdv A' outer s H vs Q E hr h => ?_)
  · obtain ⟨l, ns, rfl, _⟩ := h
    rfl
  · obtain ⟨l, ns, rfl, hS, hb, q⟩ := h
    refine ⟨_, (pss_cons (ps_set (i := 1) sc_law.nd rfl (Or.inl rfl) (pe_op op_add pe_int (pe_op op_mod (pe_callTy call_intI (by rfl) T.b_int (by decide +kernel) (pa_cons (pe_call G_law_cell (hr.mono (by decide)) (by rfl) T.g_law_cell T.F_law_cell.kp T.B_law_cell .nil pass0 (pa_cons (pv 0) (pa_cons pe_int pa_nil))) pa_nil)) pe_int))) 
    (pss_cons (ps_set (i := 2) sc_law.nd rfl (Or.inl rfl) (pe_call G_law_rows (hr.mono (by decide)) (by rfl) T.g_law_rows T.F_law_rows.kp T.B_law_rows .nil pass0 (pa_cons (pv 0) (pa_cons pe_int (pa_cons (pe_op op_mod (pe_callTy call_intI (by rfl) T.b_int (by decide +kernel) (pa_cons (pe_call G_law_cell (hr.mono (by decide)) (by rfl) T.g_law_cell T.F_law_cell.kp T.B_law_cell .nil pass0 (pa_cons (pv 0) (pa_cons pe_int pa_nil))) pa_nil)) pe_int) (pa_cons (pe_tup pa_nil) pa_nil)))))) 
    (pss_cons (ps_set (i := 3) sc_law.nd rfl (Or.inl rfl) (pe_make T.mk_System G_System___init__ (hr.mono (by decide)) (by rfl) T.gC_System T.B_System___init__ .nil pass0 (pa_cons pe_int (pa_cons (pv 2) pa_nil)))) 
    (pss_cons (ps_set (i := 4) sc_law.nd rfl (Or.inl rfl) (pe_callN (n := 1) G_examine hr (by rfl) T.g_examine T.F_examine.kp (kb_examine T) pass0 (pa_cons (pv 3) pa_nil) (pk_cons (pv 1) pk_nil))) 
    (pss_cons (ps_if (pt_val (pe_call G_law_all_hold (hr.mono (by decide)) (by rfl) T.g_law_all_hold T.F_law_all_hold.kp T.B_law_all_hold .nil pass0 (pa_cons (pv 2) (pa_cons (pe_tup pa_nil) pa_nil)))) 
      (pss_one (ps_if (pt_cmpR (op_neD hr.units) (pv 4) (pe_tup (pa_cons pe_str (pa_cons (pe_tup pa_nil) pa_nil))) (nomark _)) 
        (pss_one (ps_ret pe_bl)) pss_nil)) 
      (pss_one (ps_if (pt_not (pt_val (pe_call G_law_refuted (hr.mono (by decide)) (by rfl) T.g_law_refuted T.F_law_refuted.kp T.B_law_refuted .nil pass0 (pa_cons (pv 3) (pa_cons (pv 4) pa_nil))))) 
        (pss_one (ps_ret pe_bl)) pss_nil))) 
    (pss_cons (ps_set (i := 5) sc_law.nd rfl (Or.inl rfl) (pe_op op_add pe_int (pe_op op_mod (pe_callTy call_intI (by rfl) T.b_int (by decide +kernel) (pa_cons (pe_call G_law_cell (hr.mono (by decide)) (by rfl) T.g_law_cell T.F_law_cell.kp T.B_law_cell .nil pass0 (pa_cons (pv 0) (pa_cons pe_int pa_nil))) pa_nil)) pe_int))) 
    (pss_cons (ps_set (i := 6) sc_law.nd rfl (Or.inl rfl) (pe_call G_law_point (hr.mono (by decide)) (by rfl) T.g_law_point T.F_law_point.kp T.B_law_point .nil pass0 (pa_cons (pe_call G_law_cell (hr.mono (by decide)) (by rfl) T.g_law_cell T.F_law_cell.kp T.B_law_cell .nil pass0 (pa_cons (pv 0) (pa_cons pe_int pa_nil))) (pa_cons (pv 5) pa_nil)))) 
    (pss_cons (ps_set (i := 7) sc_law.nd rfl (Or.inl rfl) (pe_call G_law_rows (hr.mono (by decide)) (by rfl) T.g_law_rows T.F_law_rows.kp T.B_law_rows .nil pass0 (pa_cons (pv 0) (pa_cons pe_int (pa_cons (pe_op op_mod (pe_op op_fdiv (pe_callTy call_intI (by rfl) T.b_int (by decide +kernel) (pa_cons (pe_call G_law_cell (hr.mono (by decide)) (by rfl) T.g_law_cell T.F_law_cell.kp T.B_law_cell .nil pass0 (pa_cons (pv 0) (pa_cons pe_int pa_nil))) pa_nil)) pe_int) pe_int) (pa_cons (pv 6) pa_nil)))))) 
    (pss_cons (ps_set (i := 8) sc_law.nd rfl (Or.inl rfl) (pe_op op_mod (pe_op op_fdiv (pe_callTy call_intI (by rfl) T.b_int (by decide +kernel) (pa_cons (pe_call G_law_cell (hr.mono (by decide)) (by rfl) T.g_law_cell T.F_law_cell.kp T.B_law_cell .nil pass0 (pa_cons (pv 0) (pa_cons pe_int pa_nil))) pa_nil)) pe_int) (pe_op op_add (pe_callB call_len_seq (by rfl) T.b_len (by decide +kernel) (pa_cons (pv 7) pa_nil)) pe_int))) 
    (pss_cons (ps_set (i := 9) sc_law.nd rfl (Or.inl rfl) (pe_make T.mk_System G_System___init__ (hr.mono (by decide)) (by rfl) T.gC_System T.B_System___init__ .nil pass0 (pa_cons (pv 5) (pa_cons (pe_op op_cat (pe_op op_cat (pe_slice sl_list (pv 7) po_none (po_some (pv 8))) (pe_lst (pa_cons (pe_call G_law_impossible (hr.mono (by decide)) (by rfl) T.g_law_impossible T.F_law_impossible.kp T.B_law_impossible .nil pass0 (pa_cons (pe_call G_law_cell (hr.mono (by decide)) (by rfl) T.g_law_cell T.F_law_cell.kp T.B_law_cell .nil pass0 (pa_cons (pv 0) (pa_cons pe_int pa_nil))) (pa_cons (pv 5) pa_nil))) pa_nil))) (pe_slice sl_list (pv 7) (po_some (pv 8)) po_none)) pa_nil)))) 
    (pss_one (ps_ret (pe_call G_law_refuted (hr.mono (by decide)) (by rfl) T.g_law_refuted T.F_law_refuted.kp T.B_law_refuted .nil pass0 (pa_cons (pv 9) (pa_cons (pe_callN (n := 1) G_examine hr (by rfl) T.g_examine T.F_examine.kp (kb_examine T) pass0 (pa_cons (pv 9) pa_nil) (pk_cons (pv 1) pk_nil)) pa_nil))))))))))))))), ?_⟩
    walk_at "wp"
    refine ⟨l, ns, 0, rfl, hS, _, rfl, by decide, l, ns, 1, rfl, hS, _, rfl, by decide, by decide, fun p1 n1 => ?_⟩
    have s1 := same_upd (o := .tup []) n1
    obtain ⟨m, hm, em⟩ : ∃ m : Nat, m ≤ 8 ∧ cellOf ns 1 % 9 = (m : Int) := ⟨(cellOf ns 1 % 9).toNat, by omega, by omega⟩
    rw [em]
    refine ⟨l, ns, 3, m, p1, [], 0, rfl, s1.seq hS, hb, SqT.of upd_same, ⟨rfl, fun x hx => by cases hx⟩, by decide, by omega, fun H2 la rs s2 nla ela o2 g2 l2 => ?_⟩
    have wf0 : ∀ r ∈ rs, Wf 0 r.2 := fun r hr => (g2 r hr).wf (by decide)
    refine sys_make (A := A) (n := 0) (rs := rs) (.inl (SqL.of ela)) o2 wf0 (by decide) (by omega) fun H3 xa dx ra s3 sx => ?_
    have iff0 := closed_iff0 (ts := cts rs) (fun t ht => by obtain ⟨r, hr, rfl⟩ := List.mem_map.mp ht; exact (g2 r hr).ok) (fun t ht => by obtain ⟨r, hr, rfl⟩ := List.mem_map.mp ht; exact List.eq_nil_of_length_eq_zero (g2 r hr).len)
    have s13 := (s1.trans s2).trans s3
    have AH : ∀ r ∈ rs, r.2.k.ok ∧ r.2.c.length = 0 ∧ ∀ x ∈ r.2.c, Sz 100000 x := fun r hr => ⟨(g2 r hr).ok, (g2 r hr).len, fun x hx => ((g2 r hr).cs x hx).mono (by decide)⟩
    refine ⟨xa, 1 + cellOf ns 0 % 30, rfl, by omega, by omega, ?_⟩
    by_cases hi : rrows 0 [] (cts rs) = [imp 0]
    · refine .inl ⟨⟨dx, ra, 0, rs, sx, wf0, by decide, by omega, hi⟩, fun H4 r pp s4 hr hc => ⟨by decide, fun p5 n5 => ?_⟩⟩
      rw [decide_eq_true hi] at iff0
      have s5 := same_upd (o := .tup []) n5
      have s35 := s3.trans (s4.trans s5)
      refine ⟨la, p5, rs, [], 0, rfl, .inl (SqL.of (s35 _ _ ela)), o2.same s35, AH, SqT.of upd_same, rfl, by decide, (fun x hx => by cases hx), fun H6 s6 => ⟨_, rfl, ?_⟩⟩
      rw [if_neg (by cases hh : (cts rs).all fun x => x.at_ [] with | true => rw [hh] at iff0; cases iff0 | false => exact Bool.false_ne_true)]
      have s46 := s4.trans (s5.trans s6)
      refine ⟨xa, r, pp, rfl, Im.same ⟨dx, ra, 0, rs, sx, wf0, by decide, by omega, hi⟩ s46, sameT (s5.trans s6) hr, hc.same (s5.trans s6), fun H7 s7 => ⟨true, rfl, ?_⟩⟩
      rw [if_neg (by decide)]
      have sX := s13.trans (s46.trans s7)
      obtain ⟨n, n1', n4, en⟩ : ∃ n : Nat, 1 ≤ n ∧ n ≤ 4 ∧ 1 + cellOf ns 2 % 4 = (n : Int) := ⟨(1 + cellOf ns 2 % 4).toNat, by omega, by omega, by omega⟩
      refine ⟨l, ns, 2, rfl, sX.seq hS, _, rfl, by decide, l, ns, 12, rfl, sX.seq hS, ?_⟩
      rw [en]
      refine ⟨_, n, rfl, sz_cell hb _, by omega, fun Ha pt p sa hp hP => ?_⟩
      have sXa := sX.trans sa
      obtain ⟨m2, hm2, em2⟩ : ∃ m : Nat, m ≤ 7 ∧ cellOf ns 1 / 9 % 8 = (m : Int) := ⟨(cellOf ns 1 / 9 % 8).toNat, by omega, by omega⟩
      refine ⟨l, ns, 1, rfl, sXa.seq hS, _, rfl, ⟨by decide, by decide⟩, by decide, ?_⟩
      rw [em2]
      refine ⟨l, ns, 14, m2, pt, p, n, rfl, sXa.seq hS, hb, hp, hP, by omega, by omega, fun Hb lb ms sb nlb elb ob gb lms => ?_⟩
      have sXb := sXa.trans sb
      have lrv : (rv ms).length = ms.length := by rw [rv, List.length_map]
      obtain ⟨k, hk, ek⟩ : ∃ k : Nat, k ≤ ms.length ∧ cellOf ns 2 / 4 % (((rv ms).length : Int) + 1) = (k : Int) := by
        have e1 := Int.emod_nonneg (cellOf ns 2 / 4) (show ((rv ms).length : Int) + 1 ≠ 0 by omega)
        have e2 := Int.emod_lt_of_pos (cellOf ns 2 / 4) (show 0 < ((rv ms).length : Int) + 1 by omega)
        exact ⟨(cellOf ns 2 / 4 % (((rv ms).length : Int) + 1)).toNat, by omega, by omega⟩
      refine ⟨l, ns, 2, rfl, sXb.seq hS, _, rfl, ⟨by decide, by decide⟩, lb, rfl, _, .inl (SqL.of elb), by omega, lb, _, rfl, SqL.of elb, fun pa na => ?_⟩
      rw [ek, cut_take _ _ (by omega)]
      have sc := same_upd (o := .lst ((rv ms).take k)) na
      have ea : upd Hb pa (.lst ((rv ms).take k)) pa = some (.lst ((rv ms).take k)) := upd_same
      generalize upd Hb pa (.lst ((rv ms).take k)) = Hc at *
      have sXc := sXb.trans sc
      refine ⟨l, ns, 13, rfl, sXc.seq hS, _, n, rfl, sz_cell hb _, n1', n4, fun Hd px u sd hu wu ru => ⟨by decide, fun pb nb => ?_⟩⟩
      have se := same_upd (o := .lst [V.ref px]) nb
      have eb : upd Hd pb (.lst [V.ref px]) pb = some (.lst [V.ref px]) := upd_same
      generalize upd Hd pb (.lst [V.ref px]) = He at *
      refine ⟨pa, pb, _, _, rfl, rfl, se _ _ (sd _ _ ea), eb, Nat.le_of_lt <| smallM (by rw [List.length_take]; dsimp only [List.length_cons, List.length_nil]; omega), fun pc nc => ?_⟩
      have sf := same_upd (o := .lst ((rv ms).take k ++ [V.ref px])) nc
      have ec : upd He pc (.lst ((rv ms).take k ++ [V.ref px])) pc = some (.lst ((rv ms).take k ++ [V.ref px])) := upd_same
      generalize upd He pc (.lst ((rv ms).take k ++ [V.ref px])) = Hf at *
      have scf := (sc.trans sd).trans (se.trans sf)
      refine ⟨lb, _, rfl, SqL.of (scf _ _ elb), fun pd nd => ?_⟩
      rw [cut_drop _ _ (by omega)]
      have sg := same_upd (o := .lst ((rv ms).drop k)) nd
      have ed : upd Hf pd (.lst ((rv ms).drop k)) pd = some (.lst ((rv ms).drop k)) := upd_same
      generalize upd Hf pd (.lst ((rv ms).drop k)) = Hg at *
      refine ⟨pc, pd, _, _, rfl, rfl, sg _ _ ec, ed, Nat.le_of_lt <| smallM (by rw [List.length_append, List.length_take, List.length_drop]; dsimp only [List.length_cons, List.length_nil]; omega), fun pe ne => ?_⟩
      have sh := same_upd (o := .lst ((rv ms).take k ++ [V.ref px] ++ (rv ms).drop k)) ne
      have ee' : upd Hg pe (.lst ((rv ms).take k ++ [V.ref px] ++ (rv ms).drop k)) pe = some (.lst (rv (ms.take k ++ [(px, u)] ++ ms.drop k))) := by
        rw [upd_same, rv, rv, List.map_append, List.map_append, List.map_take, List.map_drop]
        rfl
      generalize upd Hg pe (.lst ((rv ms).take k ++ [V.ref px] ++ (rv ms).drop k)) = Hh at *
      have scg := scf.trans (sg.trans sh)
      have memT : ∀ r ∈ ms.take k ++ [(px, u)] ++ ms.drop k, r ∈ ms ∨ r = (px, u) := fun r hr => by
        rcases List.mem_append.mp hr with hr | hr
        · rcases List.mem_append.mp hr with hr | hr
          · exact .inl (List.mem_of_mem_take hr)
          · exact .inr (List.mem_singleton.mp hr)
        · exact .inl (List.mem_of_mem_drop hr)
      have wfT : ∀ r ∈ ms.take k ++ [(px, u)] ++ ms.drop k, Wf n r.2 := fun r hr => by
        rcases memT r hr with h | rfl
        · exact (gb r h).wf (by omega)
        · exact wu
      have lT : (ms.take k ++ [(px, u)] ++ ms.drop k).length ≤ 100 := by
        rw [List.length_append, List.length_append, List.length_take, List.length_drop, List.length_singleton]
        omega
      have hmm : u ∈ cts (ms.take k ++ [(px, u)] ++ ms.drop k) := List.mem_map.mpr ⟨(px, u), List.mem_append.mpr (.inl (List.mem_append.mpr (.inr List.mem_cons_self))), rfl⟩
      refine sys_make (A := A) (n := n) (rs := ms.take k ++ [(px, u)] ++ ms.drop k) (.inl (SqL.of ee')) (fun r hr => ?_) wfT (by omega) (by omega) fun Hi xb dxb rb si sxb => ?_
      · rcases memT r hr with h | rfl
        · exact (ob r h).same scg
        · exact hu.same (se.trans (sf.trans (sg.trans sh)))
      · have hIm : Im A K Hi xb := ⟨dxb, rb, n, _, sxb, wfT, by omega, by omega, rrows_imp ru _ [] hmm⟩
        refine ⟨xb, 1 + cellOf ns 0 % 30, rfl, by omega, by omega, .inl ⟨hIm, fun Hj r pp sj hr hc => ⟨xb, r, pp, rfl, hIm.same sj, hr, hc, fun Hk sk => q _⟩⟩⟩
    · refine .inr ⟨⟨dx, ra, rs, sx, wf0, by omega, hi⟩, fun H4 r qq s4 hr hq => ⟨by decide, fun p5 n5 => ?_⟩⟩
      rw [decide_eq_false hi] at iff0
      have s5 := same_upd (o := .tup []) n5
      have s35 := s3.trans (s4.trans s5)
      refine ⟨la, p5, rs, [], 0, rfl, .inl (SqL.of (s35 _ _ ela)), o2.same s35, AH, SqT.of upd_same, rfl, by decide, (fun x hx => by cases hx), fun H6 s6 => ⟨_, rfl, ?_⟩⟩
      rw [if_pos (by cases hh : (cts rs).all fun x => x.at_ [] with | true => rfl | false => rw [hh] at iff0; cases iff0)]
      refine ⟨by decide, fun p8 n8 => ⟨by decide, fun p9 n9 => ?_⟩⟩
      have s8 := same_upd (o := .tup []) n8
      have s9 := same_upd (o := .tup [V.str (Str.ofString "point"), V.ref p8]) n9
      have s89 := s8.trans s9
      refine ⟨.tuple [.str "point", .tuple []], .tuple [.str "point", .tuple []], .tup (sameT ((s5.trans s6).trans s89) hr) (.cons (.str _) (.cons (.tup (sameT ((s5.trans s6).trans s89) hq) .nil) .nil)), .tup (SqT.of upd_same) (.cons (.str _) (.cons (.tup (sameT s9 (SqT.of upd_same)) .nil) .nil)), by decide +kernel, by decide +kernel, ?_⟩
      have ee : PyData.eqv (.tuple [.str "point", .tuple []]) (.tuple [.str "point", .tuple []]) = true := by
        simp [PyData.eqv, PyData.eqvAll]
      rw [ee]
      refine ⟨false, rfl, ?_⟩
      rw [if_neg (by decide)]
      have sX := s13.trans ((s4.trans (s5.trans s6)).trans s89)
      obtain ⟨n, n1', n4, en⟩ : ∃ n : Nat, 1 ≤ n ∧ n ≤ 4 ∧ 1 + cellOf ns 2 % 4 = (n : Int) := ⟨(1 + cellOf ns 2 % 4).toNat, by omega, by omega, by omega⟩
      refine ⟨l, ns, 2, rfl, sX.seq hS, _, rfl, by decide, l, ns, 12, rfl, sX.seq hS, ?_⟩
      rw [en]
      refine ⟨_, n, rfl, sz_cell hb _, by omega, fun Ha pt p sa hp hP => ?_⟩
      have sXa := sX.trans sa
      obtain ⟨m2, hm2, em2⟩ : ∃ m : Nat, m ≤ 7 ∧ cellOf ns 1 / 9 % 8 = (m : Int) := ⟨(cellOf ns 1 / 9 % 8).toNat, by omega, by omega⟩
      refine ⟨l, ns, 1, rfl, sXa.seq hS, _, rfl, ⟨by decide, by decide⟩, by decide, ?_⟩
      rw [em2]
      refine ⟨l, ns, 14, m2, pt, p, n, rfl, sXa.seq hS, hb, hp, hP, by omega, by omega, fun Hb lb ms sb nlb elb ob gb lms => ?_⟩
      have sXb := sXa.trans sb
      have lrv : (rv ms).length = ms.length := by rw [rv, List.length_map]
      obtain ⟨k, hk, ek⟩ : ∃ k : Nat, k ≤ ms.length ∧ cellOf ns 2 / 4 % (((rv ms).length : Int) + 1) = (k : Int) := by
        have e1 := Int.emod_nonneg (cellOf ns 2 / 4) (show ((rv ms).length : Int) + 1 ≠ 0 by omega)
        have e2 := Int.emod_lt_of_pos (cellOf ns 2 / 4) (show 0 < ((rv ms).length : Int) + 1 by omega)
        exact ⟨(cellOf ns 2 / 4 % (((rv ms).length : Int) + 1)).toNat, by omega, by omega⟩
      refine ⟨l, ns, 2, rfl, sXb.seq hS, _, rfl, ⟨by decide, by decide⟩, lb, rfl, _, .inl (SqL.of elb), by omega, lb, _, rfl, SqL.of elb, fun pa na => ?_⟩
      rw [ek, cut_take _ _ (by omega)]
      have sc := same_upd (o := .lst ((rv ms).take k)) na
      have ea : upd Hb pa (.lst ((rv ms).take k)) pa = some (.lst ((rv ms).take k)) := upd_same
      generalize upd Hb pa (.lst ((rv ms).take k)) = Hc at *
      have sXc := sXb.trans sc
      refine ⟨l, ns, 13, rfl, sXc.seq hS, _, n, rfl, sz_cell hb _, n1', n4, fun Hd px u sd hu wu ru => ⟨by decide, fun pb nb => ?_⟩⟩
      have se := same_upd (o := .lst [V.ref px]) nb
      have eb : upd Hd pb (.lst [V.ref px]) pb = some (.lst [V.ref px]) := upd_same
      generalize upd Hd pb (.lst [V.ref px]) = He at *
      refine ⟨pa, pb, _, _, rfl, rfl, se _ _ (sd _ _ ea), eb, Nat.le_of_lt <| smallM (by rw [List.length_take]; dsimp only [List.length_cons, List.length_nil]; omega), fun pc nc => ?_⟩
      have sf := same_upd (o := .lst ((rv ms).take k ++ [V.ref px])) nc
      have ec : upd He pc (.lst ((rv ms).take k ++ [V.ref px])) pc = some (.lst ((rv ms).take k ++ [V.ref px])) := upd_same
      generalize upd He pc (.lst ((rv ms).take k ++ [V.ref px])) = Hf at *
      have scf := (sc.trans sd).trans (se.trans sf)
      refine ⟨lb, _, rfl, SqL.of (scf _ _ elb), fun pd nd => ?_⟩
      rw [cut_drop _ _ (by omega)]
      have sg := same_upd (o := .lst ((rv ms).drop k)) nd
      have ed : upd Hf pd (.lst ((rv ms).drop k)) pd = some (.lst ((rv ms).drop k)) := upd_same
      generalize upd Hf pd (.lst ((rv ms).drop k)) = Hg at *
      refine ⟨pc, pd, _, _, rfl, rfl, sg _ _ ec, ed, Nat.le_of_lt <| smallM (by rw [List.length_append, List.length_take, List.length_drop]; dsimp only [List.length_cons, List.length_nil]; omega), fun pe ne => ?_⟩
      have sh := same_upd (o := .lst ((rv ms).take k ++ [V.ref px] ++ (rv ms).drop k)) ne
      have ee' : upd Hg pe (.lst ((rv ms).take k ++ [V.ref px] ++ (rv ms).drop k)) pe = some (.lst (rv (ms.take k ++ [(px, u)] ++ ms.drop k))) := by
        rw [upd_same, rv, rv, List.map_append, List.map_append, List.map_take, List.map_drop]
        rfl
      generalize upd Hg pe (.lst ((rv ms).take k ++ [V.ref px] ++ (rv ms).drop k)) = Hh at *
      have scg := scf.trans (sg.trans sh)
      have memT : ∀ r ∈ ms.take k ++ [(px, u)] ++ ms.drop k, r ∈ ms ∨ r = (px, u) := fun r hr => by
        rcases List.mem_append.mp hr with hr | hr
        · rcases List.mem_append.mp hr with hr | hr
          · exact .inl (List.mem_of_mem_take hr)
          · exact .inr (List.mem_singleton.mp hr)
        · exact .inl (List.mem_of_mem_drop hr)
      have wfT : ∀ r ∈ ms.take k ++ [(px, u)] ++ ms.drop k, Wf n r.2 := fun r hr => by
        rcases memT r hr with h | rfl
        · exact (gb r h).wf (by omega)
        · exact wu
      have lT : (ms.take k ++ [(px, u)] ++ ms.drop k).length ≤ 100 := by
        rw [List.length_append, List.length_append, List.length_take, List.length_drop, List.length_singleton]
        omega
      have hmm : u ∈ cts (ms.take k ++ [(px, u)] ++ ms.drop k) := List.mem_map.mpr ⟨(px, u), List.mem_append.mpr (.inl (List.mem_append.mpr (.inr List.mem_cons_self))), rfl⟩
      refine sys_make (A := A) (n := n) (rs := ms.take k ++ [(px, u)] ++ ms.drop k) (.inl (SqL.of ee')) (fun r hr => ?_) wfT (by omega) (by omega) fun Hi xb dxb rb si sxb => ?_
      · rcases memT r hr with h | rfl
        · exact (ob r h).same scg
        · exact hu.same (se.trans (sf.trans (sg.trans sh)))
      · have hIm : Im A K Hi xb := ⟨dxb, rb, n, _, sxb, wfT, by omega, by omega, rrows_imp ru _ [] hmm⟩
        refine ⟨xb, 1 + cellOf ns 0 % 30, rfl, by omega, by omega, .inl ⟨hIm, fun Hj r pp sj hr hc => ⟨xb, r, pp, rfl, hIm.same sj, hr, hc, fun Hk sk => q _⟩⟩⟩
end
theorem all_mk {K : PySem.W.Frag} {h : Heap} {mg : Str → Option Value} {fa : Addr} (X : K.In h) (G : h.Ns mainGlobals mg) (hfa : mg "law" = some (.ref fa))
    {x_Examination : Addr}
    {x_Budget : Addr}
    {x_System : Addr}
    {x_is_integer : Addr} {od_is_integer an_is_integer : Option Addr} {sl_is_integer : Array (Option Value)} {oc_is_integer kV_is_integer dc_is_integer pm_is_integer cd_is_integer ct_is_integer : Value}
    {x_is_tuple_of_integers : Addr} {od_is_tuple_of_integers an_is_tuple_of_integers : Option Addr} {sl_is_tuple_of_integers : Array (Option Value)} {oc_is_tuple_of_integers kV_is_tuple_of_integers dc_is_tuple_of_integers pm_is_tuple_of_integers cd_is_tuple_of_integers ct_is_tuple_of_integers : Value}
    {x_is_constraint : Addr} {od_is_constraint an_is_constraint : Option Addr} {sl_is_constraint : Array (Option Value)} {oc_is_constraint kV_is_constraint dc_is_constraint pm_is_constraint cd_is_constraint ct_is_constraint : Value}
    {x_impossible : Addr} {od_impossible an_impossible : Option Addr} {sl_impossible : Array (Option Value)} {oc_impossible kV_impossible dc_impossible pm_impossible cd_impossible ct_impossible : Value}
    {x_common_divisor : Addr} {od_common_divisor an_common_divisor : Option Addr} {sl_common_divisor : Array (Option Value)} {oc_common_divisor kV_common_divisor dc_common_divisor pm_common_divisor cd_common_divisor ct_common_divisor : Value}
    {x_divided : Addr} {od_divided an_divided : Option Addr} {sl_divided : Array (Option Value)} {oc_divided kV_divided dc_divided pm_divided cd_divided ct_divided : Value}
    {x_reduced_inequality : Addr} {od_reduced_inequality an_reduced_inequality : Option Addr} {sl_reduced_inequality : Array (Option Value)} {oc_reduced_inequality kV_reduced_inequality dc_reduced_inequality pm_reduced_inequality cd_reduced_inequality ct_reduced_inequality : Value}
    {x_reduced_equation : Addr} {od_reduced_equation an_reduced_equation : Option Addr} {sl_reduced_equation : Array (Option Value)} {oc_reduced_equation kV_reduced_equation dc_reduced_equation pm_reduced_equation cd_reduced_equation ct_reduced_equation : Value}
    {x_reduced_multiple : Addr} {od_reduced_multiple an_reduced_multiple : Option Addr} {sl_reduced_multiple : Array (Option Value)} {oc_reduced_multiple kV_reduced_multiple dc_reduced_multiple pm_reduced_multiple cd_reduced_multiple ct_reduced_multiple : Value}
    {x_reduced_constraint : Addr} {od_reduced_constraint an_reduced_constraint : Option Addr} {sl_reduced_constraint : Array (Option Value)} {oc_reduced_constraint kV_reduced_constraint dc_reduced_constraint pm_reduced_constraint cd_reduced_constraint ct_reduced_constraint : Value}
    {x_reduced_rows : Addr} {od_reduced_rows an_reduced_rows : Option Addr} {sl_reduced_rows : Array (Option Value)} {oc_reduced_rows kV_reduced_rows dc_reduced_rows pm_reduced_rows cd_reduced_rows ct_reduced_rows : Value}
    {x_System___init__ : Addr} {od_System___init__ an_System___init__ : Option Addr} {sl_System___init__ : Array (Option Value)} {oc_System___init__ kV_System___init__ dc_System___init__ pm_System___init__ cd_System___init__ ct_System___init__ : Value}
    {x_System_is_impossible : Addr} {od_System_is_impossible an_System_is_impossible : Option Addr} {sl_System_is_impossible : Array (Option Value)} {oc_System_is_impossible kV_System_is_impossible dc_System_is_impossible pm_System_is_impossible cd_System_is_impossible ct_System_is_impossible : Value}
    {y_System_is_impossible : Addr} {rs_System_is_impossible : List Value}
    {x_System_reduced : Addr} {od_System_reduced an_System_reduced : Option Addr} {sl_System_reduced : Array (Option Value)} {oc_System_reduced kV_System_reduced dc_System_reduced pm_System_reduced cd_System_reduced ct_System_reduced : Value}
    {x_closed : Addr} {od_closed an_closed : Option Addr} {sl_closed : Array (Option Value)} {oc_closed kV_closed dc_closed pm_closed cd_closed ct_closed : Value}
    {x_made_by : Addr} {od_made_by an_made_by : Option Addr} {sl_made_by : Array (Option Value)} {oc_made_by kV_made_by dc_made_by pm_made_by cd_made_by ct_made_by : Value}
    {x_check_left : Addr} {od_check_left an_check_left : Option Addr} {sl_check_left : Array (Option Value)} {oc_check_left kV_check_left dc_check_left pm_check_left cd_check_left ct_check_left : Value}
    {x_check_numbers : Addr} {od_check_numbers an_check_numbers : Option Addr} {sl_check_numbers : Array (Option Value)} {oc_check_numbers kV_check_numbers dc_check_numbers pm_check_numbers cd_check_numbers ct_check_numbers : Value}
    {x_left_behind : Addr} {od_left_behind an_left_behind : Option Addr} {sl_left_behind : Array (Option Value)} {oc_left_behind kV_left_behind dc_left_behind pm_left_behind cd_left_behind ct_left_behind : Value}
    {x_remaining : Addr} {od_remaining an_remaining : Option Addr} {sl_remaining : Array (Option Value)} {oc_remaining kV_remaining dc_remaining pm_remaining cd_remaining ct_remaining : Value}
    {x_refutes : Addr} {od_refutes an_refutes : Option Addr} {sl_refutes : Array (Option Value)} {oc_refutes kV_refutes dc_refutes pm_refutes cd_refutes ct_refutes : Value}
    {x_lifted : Addr} {od_lifted an_lifted : Option Addr} {sl_lifted : Array (Option Value)} {oc_lifted kV_lifted dc_lifted pm_lifted cd_lifted ct_lifted : Value}
    {x_Budget___init__ : Addr} {od_Budget___init__ an_Budget___init__ : Option Addr} {sl_Budget___init__ : Array (Option Value)} {oc_Budget___init__ kV_Budget___init__ dc_Budget___init__ pm_Budget___init__ cd_Budget___init__ ct_Budget___init__ : Value}
    {x_Budget_spend : Addr} {od_Budget_spend an_Budget_spend : Option Addr} {sl_Budget_spend : Array (Option Value)} {oc_Budget_spend kV_Budget_spend dc_Budget_spend pm_Budget_spend cd_Budget_spend ct_Budget_spend : Value}
    {x_Examination___init__ : Addr} {od_Examination___init__ an_Examination___init__ : Option Addr} {sl_Examination___init__ : Array (Option Value)} {oc_Examination___init__ kV_Examination___init__ dc_Examination___init__ pm_Examination___init__ cd_Examination___init__ ct_Examination___init__ : Value}
    {x_Examination_take : Addr} {od_Examination_take an_Examination_take : Option Addr} {sl_Examination_take : Array (Option Value)} {oc_Examination_take kV_Examination_take dc_Examination_take pm_Examination_take cd_Examination_take ct_Examination_take : Value}
    {x_Examination_look : Addr} {od_Examination_look an_Examination_look : Option Addr} {sl_Examination_look : Array (Option Value)} {oc_Examination_look kV_Examination_look dc_Examination_look pm_Examination_look cd_Examination_look ct_Examination_look : Value}
    {x_examined : Addr} {od_examined an_examined : Option Addr} {sl_examined : Array (Option Value)} {oc_examined kV_examined dc_examined pm_examined cd_examined ct_examined : Value}
    {x_examine : Addr} {od_examine an_examine : Option Addr} {sl_examine : Array (Option Value)} {oc_examine kV_examine dc_examine pm_examine cd_examine ct_examine : Value}
    {x_law_cell : Addr} {od_law_cell an_law_cell : Option Addr} {sl_law_cell : Array (Option Value)} {oc_law_cell kV_law_cell dc_law_cell pm_law_cell cd_law_cell ct_law_cell : Value}
    {x_law_draws : Addr} {od_law_draws an_law_draws : Option Addr} {sl_law_draws : Array (Option Value)} {oc_law_draws kV_law_draws dc_law_draws pm_law_draws cd_law_draws ct_law_draws : Value}
    {x_law_value : Addr} {od_law_value an_law_value : Option Addr} {sl_law_value : Array (Option Value)} {oc_law_value kV_law_value dc_law_value pm_law_value cd_law_value ct_law_value : Value}
    {x_law_holds : Addr} {od_law_holds an_law_holds : Option Addr} {sl_law_holds : Array (Option Value)} {oc_law_holds kV_law_holds dc_law_holds pm_law_holds cd_law_holds ct_law_holds : Value}
    {x_law_all_hold : Addr} {od_law_all_hold an_law_all_hold : Option Addr} {sl_law_all_hold : Array (Option Value)} {oc_law_all_hold kV_law_all_hold dc_law_all_hold pm_law_all_hold cd_law_all_hold ct_law_all_hold : Value}
    {x_law_point : Addr} {od_law_point an_law_point : Option Addr} {sl_law_point : Array (Option Value)} {oc_law_point kV_law_point dc_law_point pm_law_point cd_law_point ct_law_point : Value}
    {x_law_constraint : Addr} {od_law_constraint an_law_constraint : Option Addr} {sl_law_constraint : Array (Option Value)} {oc_law_constraint kV_law_constraint dc_law_constraint pm_law_constraint cd_law_constraint ct_law_constraint : Value}
    {x_law_rows : Addr} {od_law_rows an_law_rows : Option Addr} {sl_law_rows : Array (Option Value)} {oc_law_rows kV_law_rows dc_law_rows pm_law_rows cd_law_rows ct_law_rows : Value}
    {x_law_impossible : Addr} {od_law_impossible an_law_impossible : Option Addr} {sl_law_impossible : Array (Option Value)} {oc_law_impossible kV_law_impossible dc_law_impossible pm_law_impossible cd_law_impossible ct_law_impossible : Value}
    {x_law_refuted : Addr} {od_law_refuted an_law_refuted : Option Addr} {sl_law_refuted : Array (Option Value)} {oc_law_refuted kV_law_refuted dc_law_refuted pm_law_refuted cd_law_refuted ct_law_refuted : Value}
    {x_law : Addr} {od_law an_law : Option Addr} {sl_law : Array (Option Value)} {oc_law kV_law dc_law pm_law cd_law ct_law : Value}
    {t_MOST_EFFORT : Tok}
    {t_MOST_WEIGHT : Tok}
    {t_MOST_VARIABLES : Tok}
    {t_GREATEST : Tok}
    (a_Examination : PySem.W.nsIn K mainGlobals "Examination" = some (some (.ref x_Examination))) (pg_Examination : PySem.W.plainGet K x_Examination Str.empty = true) (hd_Examination : PySem.W.hasDictIn K x_Examination = true) (po_Examination : PySem.W.plainOver K x_Examination = true) (sa_Examination : PySem.W.findIn K (.ref x_Examination) "__setattr__" = some (some (.builtin "object.__setattr__"))) (mk_Examination : PySem.W.makesIn K x_Examination = true) (kc_Examination : PySem.W.keepIn K (.ref x_Examination) = true) (n_Examination_left : PySem.W.findIn K (.ref x_Examination) "left" = some none) (n_Examination_trails : PySem.W.findIn K (.ref x_Examination) "trails" = some none) (n_Examination_steps : PySem.W.findIn K (.ref x_Examination) "steps" = some none)
    (a_Budget : PySem.W.nsIn K mainGlobals "Budget" = some (some (.ref x_Budget))) (pg_Budget : PySem.W.plainGet K x_Budget Str.empty = true) (hd_Budget : PySem.W.hasDictIn K x_Budget = true) (po_Budget : PySem.W.plainOver K x_Budget = true) (sa_Budget : PySem.W.findIn K (.ref x_Budget) "__setattr__" = some (some (.builtin "object.__setattr__"))) (mk_Budget : PySem.W.makesIn K x_Budget = true) (kc_Budget : PySem.W.keepIn K (.ref x_Budget) = true) (n_Budget_looks : PySem.W.findIn K (.ref x_Budget) "looks" = some none)
    (a_System : PySem.W.nsIn K mainGlobals "System" = some (some (.ref x_System))) (pg_System : PySem.W.plainGet K x_System Str.empty = true) (hd_System : PySem.W.hasDictIn K x_System = true) (po_System : PySem.W.plainOver K x_System = true) (sa_System : PySem.W.findIn K (.ref x_System) "__setattr__" = some (some (.builtin "object.__setattr__"))) (mk_System : PySem.W.makesIn K x_System = true) (kc_System : PySem.W.keepIn K (.ref x_System) = true) (n_System_variables : PySem.W.findIn K (.ref x_System) "variables" = some none) (n_System_rows : PySem.W.findIn K (.ref x_System) "rows" = some none)
    (q1_System : PySem.W.findIn K (.ref x_System) "__class__" = some (some (.builtin "object.__class__"))) (q2_System : PySem.W.specialIn K (.builtin "object.__class__") "__get__" = some (some (.builtin "getset_descriptor.__get__"))) (q3_System : PySem.W.takesIn K (.builtin "object.__class__") = some true) (q4_System : PySem.W.mroIn K x_System (.type "object") = some true)
    (a_is_integer : PySem.W.nsIn K mainGlobals "is_integer" = some (some (.ref x_is_integer))) (l_is_integer : K.lookup x_is_integer = some ⟨oc_is_integer, od_is_integer, .func (PySem.W.fnOf "is_integer" "is_integer" (defArgs s_is_integer) (defBody s_is_integer) (defScope s_is_integer) .none kV_is_integer dc_is_integer pm_is_integer an_is_integer cd_is_integer ct_is_integer), sl_is_integer⟩) (c_is_integer : PySem.W.codeIn K cd_is_integer "is_integer" = true) (k_is_integer : PySem.W.keepIn K (.ref x_is_integer) = true)
    (a_is_tuple_of_integers : PySem.W.nsIn K mainGlobals "is_tuple_of_integers" = some (some (.ref x_is_tuple_of_integers))) (l_is_tuple_of_integers : K.lookup x_is_tuple_of_integers = some ⟨oc_is_tuple_of_integers, od_is_tuple_of_integers, .func (PySem.W.fnOf "is_tuple_of_integers" "is_tuple_of_integers" (defArgs s_is_tuple_of_integers) (defBody s_is_tuple_of_integers) (defScope s_is_tuple_of_integers) .none kV_is_tuple_of_integers dc_is_tuple_of_integers pm_is_tuple_of_integers an_is_tuple_of_integers cd_is_tuple_of_integers ct_is_tuple_of_integers), sl_is_tuple_of_integers⟩) (c_is_tuple_of_integers : PySem.W.codeIn K cd_is_tuple_of_integers "is_tuple_of_integers" = true) (k_is_tuple_of_integers : PySem.W.keepIn K (.ref x_is_tuple_of_integers) = true)
    (a_is_constraint : PySem.W.nsIn K mainGlobals "is_constraint" = some (some (.ref x_is_constraint))) (l_is_constraint : K.lookup x_is_constraint = some ⟨oc_is_constraint, od_is_constraint, .func (PySem.W.fnOf "is_constraint" "is_constraint" (defArgs s_is_constraint) (defBody s_is_constraint) (defScope s_is_constraint) .none kV_is_constraint dc_is_constraint pm_is_constraint an_is_constraint cd_is_constraint ct_is_constraint), sl_is_constraint⟩) (c_is_constraint : PySem.W.codeIn K cd_is_constraint "is_constraint" = true) (k_is_constraint : PySem.W.keepIn K (.ref x_is_constraint) = true)
    (a_impossible : PySem.W.nsIn K mainGlobals "impossible" = some (some (.ref x_impossible))) (l_impossible : K.lookup x_impossible = some ⟨oc_impossible, od_impossible, .func (PySem.W.fnOf "impossible" "impossible" (defArgs s_impossible) (defBody s_impossible) (defScope s_impossible) .none kV_impossible dc_impossible pm_impossible an_impossible cd_impossible ct_impossible), sl_impossible⟩) (c_impossible : PySem.W.codeIn K cd_impossible "impossible" = true) (k_impossible : PySem.W.keepIn K (.ref x_impossible) = true)
    (a_common_divisor : PySem.W.nsIn K mainGlobals "common_divisor" = some (some (.ref x_common_divisor))) (l_common_divisor : K.lookup x_common_divisor = some ⟨oc_common_divisor, od_common_divisor, .func (PySem.W.fnOf "common_divisor" "common_divisor" (defArgs s_common_divisor) (defBody s_common_divisor) (defScope s_common_divisor) .none kV_common_divisor dc_common_divisor pm_common_divisor an_common_divisor cd_common_divisor ct_common_divisor), sl_common_divisor⟩) (c_common_divisor : PySem.W.codeIn K cd_common_divisor "common_divisor" = true) (k_common_divisor : PySem.W.keepIn K (.ref x_common_divisor) = true)
    (a_divided : PySem.W.nsIn K mainGlobals "divided" = some (some (.ref x_divided))) (l_divided : K.lookup x_divided = some ⟨oc_divided, od_divided, .func (PySem.W.fnOf "divided" "divided" (defArgs s_divided) (defBody s_divided) (defScope s_divided) .none kV_divided dc_divided pm_divided an_divided cd_divided ct_divided), sl_divided⟩) (c_divided : PySem.W.codeIn K cd_divided "divided" = true) (k_divided : PySem.W.keepIn K (.ref x_divided) = true)
    (a_reduced_inequality : PySem.W.nsIn K mainGlobals "reduced_inequality" = some (some (.ref x_reduced_inequality))) (l_reduced_inequality : K.lookup x_reduced_inequality = some ⟨oc_reduced_inequality, od_reduced_inequality, .func (PySem.W.fnOf "reduced_inequality" "reduced_inequality" (defArgs s_reduced_inequality) (defBody s_reduced_inequality) (defScope s_reduced_inequality) .none kV_reduced_inequality dc_reduced_inequality pm_reduced_inequality an_reduced_inequality cd_reduced_inequality ct_reduced_inequality), sl_reduced_inequality⟩) (c_reduced_inequality : PySem.W.codeIn K cd_reduced_inequality "reduced_inequality" = true) (k_reduced_inequality : PySem.W.keepIn K (.ref x_reduced_inequality) = true)
    (a_reduced_equation : PySem.W.nsIn K mainGlobals "reduced_equation" = some (some (.ref x_reduced_equation))) (l_reduced_equation : K.lookup x_reduced_equation = some ⟨oc_reduced_equation, od_reduced_equation, .func (PySem.W.fnOf "reduced_equation" "reduced_equation" (defArgs s_reduced_equation) (defBody s_reduced_equation) (defScope s_reduced_equation) .none kV_reduced_equation dc_reduced_equation pm_reduced_equation an_reduced_equation cd_reduced_equation ct_reduced_equation), sl_reduced_equation⟩) (c_reduced_equation : PySem.W.codeIn K cd_reduced_equation "reduced_equation" = true) (k_reduced_equation : PySem.W.keepIn K (.ref x_reduced_equation) = true)
    (a_reduced_multiple : PySem.W.nsIn K mainGlobals "reduced_multiple" = some (some (.ref x_reduced_multiple))) (l_reduced_multiple : K.lookup x_reduced_multiple = some ⟨oc_reduced_multiple, od_reduced_multiple, .func (PySem.W.fnOf "reduced_multiple" "reduced_multiple" (defArgs s_reduced_multiple) (defBody s_reduced_multiple) (defScope s_reduced_multiple) .none kV_reduced_multiple dc_reduced_multiple pm_reduced_multiple an_reduced_multiple cd_reduced_multiple ct_reduced_multiple), sl_reduced_multiple⟩) (c_reduced_multiple : PySem.W.codeIn K cd_reduced_multiple "reduced_multiple" = true) (k_reduced_multiple : PySem.W.keepIn K (.ref x_reduced_multiple) = true)
    (a_reduced_constraint : PySem.W.nsIn K mainGlobals "reduced_constraint" = some (some (.ref x_reduced_constraint))) (l_reduced_constraint : K.lookup x_reduced_constraint = some ⟨oc_reduced_constraint, od_reduced_constraint, .func (PySem.W.fnOf "reduced_constraint" "reduced_constraint" (defArgs s_reduced_constraint) (defBody s_reduced_constraint) (defScope s_reduced_constraint) .none kV_reduced_constraint dc_reduced_constraint pm_reduced_constraint an_reduced_constraint cd_reduced_constraint ct_reduced_constraint), sl_reduced_constraint⟩) (c_reduced_constraint : PySem.W.codeIn K cd_reduced_constraint "reduced_constraint" = true) (k_reduced_constraint : PySem.W.keepIn K (.ref x_reduced_constraint) = true)
    (a_reduced_rows : PySem.W.nsIn K mainGlobals "reduced_rows" = some (some (.ref x_reduced_rows))) (l_reduced_rows : K.lookup x_reduced_rows = some ⟨oc_reduced_rows, od_reduced_rows, .func (PySem.W.fnOf "reduced_rows" "reduced_rows" (defArgs s_reduced_rows) (defBody s_reduced_rows) (defScope s_reduced_rows) .none kV_reduced_rows dc_reduced_rows pm_reduced_rows an_reduced_rows cd_reduced_rows ct_reduced_rows), sl_reduced_rows⟩) (c_reduced_rows : PySem.W.codeIn K cd_reduced_rows "reduced_rows" = true) (k_reduced_rows : PySem.W.keepIn K (.ref x_reduced_rows) = true)
    (a_System___init__ : PySem.W.findIn K (.ref x_System) "__init__" = some (some (.ref x_System___init__))) (i_System___init__ : PySem.W.isFn K (.ref x_System___init__) = true)
    (l_System___init__ : K.lookup x_System___init__ = some ⟨oc_System___init__, od_System___init__, .func (PySem.W.fnOf "__init__" "System.__init__" (defArgs s_System___init__) (defBody s_System___init__) (defScope s_System___init__) .none kV_System___init__ dc_System___init__ pm_System___init__ an_System___init__ cd_System___init__ ct_System___init__), sl_System___init__⟩) (c_System___init__ : PySem.W.codeIn K cd_System___init__ "System.__init__" = true) (k_System___init__ : PySem.W.keepIn K (.ref x_System___init__) = true)
    (a_System_is_impossible : PySem.W.findIn K (.ref x_System) "is_impossible" = some (some (.ref y_System_is_impossible))) (g_System_is_impossible : PySem.W.specialIn K (.ref y_System_is_impossible) "__get__" = some (some (.builtin "property.__get__"))) (t_System_is_impossible : PySem.W.takesIn K (.ref y_System_is_impossible) = some true) (r_System_is_impossible : PySem.W.recIn K y_System_is_impossible "property" = some (.ref x_System_is_impossible :: rs_System_is_impossible))
    (l_System_is_impossible : K.lookup x_System_is_impossible = some ⟨oc_System_is_impossible, od_System_is_impossible, .func (PySem.W.fnOf "is_impossible" "System.is_impossible" (defArgs s_System_is_impossible) (defBody s_System_is_impossible) (defScope s_System_is_impossible) .none kV_System_is_impossible dc_System_is_impossible pm_System_is_impossible an_System_is_impossible cd_System_is_impossible ct_System_is_impossible), sl_System_is_impossible⟩) (c_System_is_impossible : PySem.W.codeIn K cd_System_is_impossible "System.is_impossible" = true) (k_System_is_impossible : PySem.W.keepIn K (.ref x_System_is_impossible) = true)
    (a_System_reduced : PySem.W.findIn K (.ref x_System) "reduced" = some (some (.ref x_System_reduced))) (i_System_reduced : PySem.W.isFn K (.ref x_System_reduced) = true)
    (l_System_reduced : K.lookup x_System_reduced = some ⟨oc_System_reduced, od_System_reduced, .func (PySem.W.fnOf "reduced" "System.reduced" (defArgs s_System_reduced) (defBody s_System_reduced) (defScope s_System_reduced) .none kV_System_reduced dc_System_reduced pm_System_reduced an_System_reduced cd_System_reduced ct_System_reduced), sl_System_reduced⟩) (c_System_reduced : PySem.W.codeIn K cd_System_reduced "System.reduced" = true) (k_System_reduced : PySem.W.keepIn K (.ref x_System_reduced) = true)
    (a_closed : PySem.W.nsIn K mainGlobals "closed" = some (some (.ref x_closed))) (l_closed : K.lookup x_closed = some ⟨oc_closed, od_closed, .func (PySem.W.fnOf "closed" "closed" (defArgs s_closed) (defBody s_closed) (defScope s_closed) .none kV_closed dc_closed pm_closed an_closed cd_closed ct_closed), sl_closed⟩) (c_closed : PySem.W.codeIn K cd_closed "closed" = true) (k_closed : PySem.W.keepIn K (.ref x_closed) = true)
    (a_made_by : PySem.W.nsIn K mainGlobals "made_by" = some (some (.ref x_made_by))) (l_made_by : K.lookup x_made_by = some ⟨oc_made_by, od_made_by, .func (PySem.W.fnOf "made_by" "made_by" (defArgs s_made_by) (defBody s_made_by) (defScope s_made_by) .none kV_made_by dc_made_by pm_made_by an_made_by cd_made_by ct_made_by), sl_made_by⟩) (c_made_by : PySem.W.codeIn K cd_made_by "made_by" = true) (k_made_by : PySem.W.keepIn K (.ref x_made_by) = true)
    (a_check_left : PySem.W.nsIn K mainGlobals "check_left" = some (some (.ref x_check_left))) (l_check_left : K.lookup x_check_left = some ⟨oc_check_left, od_check_left, .func (PySem.W.fnOf "check_left" "check_left" (defArgs s_check_left) (defBody s_check_left) (defScope s_check_left) .none kV_check_left dc_check_left pm_check_left an_check_left cd_check_left ct_check_left), sl_check_left⟩) (c_check_left : PySem.W.codeIn K cd_check_left "check_left" = true) (k_check_left : PySem.W.keepIn K (.ref x_check_left) = true)
    (a_check_numbers : PySem.W.nsIn K mainGlobals "check_numbers" = some (some (.ref x_check_numbers))) (l_check_numbers : K.lookup x_check_numbers = some ⟨oc_check_numbers, od_check_numbers, .func (PySem.W.fnOf "check_numbers" "check_numbers" (defArgs s_check_numbers) (defBody s_check_numbers) (defScope s_check_numbers) .none kV_check_numbers dc_check_numbers pm_check_numbers an_check_numbers cd_check_numbers ct_check_numbers), sl_check_numbers⟩) (c_check_numbers : PySem.W.codeIn K cd_check_numbers "check_numbers" = true) (k_check_numbers : PySem.W.keepIn K (.ref x_check_numbers) = true)
    (a_left_behind : PySem.W.nsIn K mainGlobals "left_behind" = some (some (.ref x_left_behind))) (l_left_behind : K.lookup x_left_behind = some ⟨oc_left_behind, od_left_behind, .func (PySem.W.fnOf "left_behind" "left_behind" (defArgs s_left_behind) (defBody s_left_behind) (defScope s_left_behind) .none kV_left_behind dc_left_behind pm_left_behind an_left_behind cd_left_behind ct_left_behind), sl_left_behind⟩) (c_left_behind : PySem.W.codeIn K cd_left_behind "left_behind" = true) (k_left_behind : PySem.W.keepIn K (.ref x_left_behind) = true)
    (a_remaining : PySem.W.nsIn K mainGlobals "remaining" = some (some (.ref x_remaining))) (l_remaining : K.lookup x_remaining = some ⟨oc_remaining, od_remaining, .func (PySem.W.fnOf "remaining" "remaining" (defArgs s_remaining) (defBody s_remaining) (defScope s_remaining) .none kV_remaining dc_remaining pm_remaining an_remaining cd_remaining ct_remaining), sl_remaining⟩) (c_remaining : PySem.W.codeIn K cd_remaining "remaining" = true) (k_remaining : PySem.W.keepIn K (.ref x_remaining) = true)
    (a_refutes : PySem.W.nsIn K mainGlobals "refutes" = some (some (.ref x_refutes))) (l_refutes : K.lookup x_refutes = some ⟨oc_refutes, od_refutes, .func (PySem.W.fnOf "refutes" "refutes" (defArgs s_refutes) (defBody s_refutes) (defScope s_refutes) .none kV_refutes dc_refutes pm_refutes an_refutes cd_refutes ct_refutes), sl_refutes⟩) (c_refutes : PySem.W.codeIn K cd_refutes "refutes" = true) (k_refutes : PySem.W.keepIn K (.ref x_refutes) = true)
    (a_lifted : PySem.W.nsIn K mainGlobals "lifted" = some (some (.ref x_lifted))) (l_lifted : K.lookup x_lifted = some ⟨oc_lifted, od_lifted, .func (PySem.W.fnOf "lifted" "lifted" (defArgs s_lifted) (defBody s_lifted) (defScope s_lifted) .none kV_lifted dc_lifted pm_lifted an_lifted cd_lifted ct_lifted), sl_lifted⟩) (c_lifted : PySem.W.codeIn K cd_lifted "lifted" = true) (k_lifted : PySem.W.keepIn K (.ref x_lifted) = true)
    (a_Budget___init__ : PySem.W.findIn K (.ref x_Budget) "__init__" = some (some (.ref x_Budget___init__))) (i_Budget___init__ : PySem.W.isFn K (.ref x_Budget___init__) = true)
    (l_Budget___init__ : K.lookup x_Budget___init__ = some ⟨oc_Budget___init__, od_Budget___init__, .func (PySem.W.fnOf "__init__" "Budget.__init__" (defArgs s_Budget___init__) (defBody s_Budget___init__) (defScope s_Budget___init__) .none kV_Budget___init__ dc_Budget___init__ pm_Budget___init__ an_Budget___init__ cd_Budget___init__ ct_Budget___init__), sl_Budget___init__⟩) (c_Budget___init__ : PySem.W.codeIn K cd_Budget___init__ "Budget.__init__" = true) (k_Budget___init__ : PySem.W.keepIn K (.ref x_Budget___init__) = true)
    (a_Budget_spend : PySem.W.findIn K (.ref x_Budget) "spend" = some (some (.ref x_Budget_spend))) (i_Budget_spend : PySem.W.isFn K (.ref x_Budget_spend) = true)
    (l_Budget_spend : K.lookup x_Budget_spend = some ⟨oc_Budget_spend, od_Budget_spend, .func (PySem.W.fnOf "spend" "Budget.spend" (defArgs s_Budget_spend) (defBody s_Budget_spend) (defScope s_Budget_spend) .none kV_Budget_spend dc_Budget_spend pm_Budget_spend an_Budget_spend cd_Budget_spend ct_Budget_spend), sl_Budget_spend⟩) (c_Budget_spend : PySem.W.codeIn K cd_Budget_spend "Budget.spend" = true) (k_Budget_spend : PySem.W.keepIn K (.ref x_Budget_spend) = true)
    (a_Examination___init__ : PySem.W.findIn K (.ref x_Examination) "__init__" = some (some (.ref x_Examination___init__))) (i_Examination___init__ : PySem.W.isFn K (.ref x_Examination___init__) = true)
    (l_Examination___init__ : K.lookup x_Examination___init__ = some ⟨oc_Examination___init__, od_Examination___init__, .func (PySem.W.fnOf "__init__" "Examination.__init__" (defArgs s_Examination___init__) (defBody s_Examination___init__) (defScope s_Examination___init__) .none kV_Examination___init__ dc_Examination___init__ pm_Examination___init__ an_Examination___init__ cd_Examination___init__ ct_Examination___init__), sl_Examination___init__⟩) (c_Examination___init__ : PySem.W.codeIn K cd_Examination___init__ "Examination.__init__" = true) (k_Examination___init__ : PySem.W.keepIn K (.ref x_Examination___init__) = true)
    (a_Examination_take : PySem.W.findIn K (.ref x_Examination) "take" = some (some (.ref x_Examination_take))) (i_Examination_take : PySem.W.isFn K (.ref x_Examination_take) = true)
    (l_Examination_take : K.lookup x_Examination_take = some ⟨oc_Examination_take, od_Examination_take, .func (PySem.W.fnOf "take" "Examination.take" (defArgs s_Examination_take) (defBody s_Examination_take) (defScope s_Examination_take) .none kV_Examination_take dc_Examination_take pm_Examination_take an_Examination_take cd_Examination_take ct_Examination_take), sl_Examination_take⟩) (c_Examination_take : PySem.W.codeIn K cd_Examination_take "Examination.take" = true) (k_Examination_take : PySem.W.keepIn K (.ref x_Examination_take) = true)
    (a_Examination_look : PySem.W.findIn K (.ref x_Examination) "look" = some (some (.ref x_Examination_look))) (i_Examination_look : PySem.W.isFn K (.ref x_Examination_look) = true)
    (l_Examination_look : K.lookup x_Examination_look = some ⟨oc_Examination_look, od_Examination_look, .func (PySem.W.fnOf "look" "Examination.look" (defArgs s_Examination_look) (defBody s_Examination_look) (defScope s_Examination_look) .none kV_Examination_look dc_Examination_look pm_Examination_look an_Examination_look cd_Examination_look ct_Examination_look), sl_Examination_look⟩) (c_Examination_look : PySem.W.codeIn K cd_Examination_look "Examination.look" = true) (k_Examination_look : PySem.W.keepIn K (.ref x_Examination_look) = true)
    (a_examined : PySem.W.nsIn K mainGlobals "examined" = some (some (.ref x_examined))) (l_examined : K.lookup x_examined = some ⟨oc_examined, od_examined, .func (PySem.W.fnOf "examined" "examined" (defArgs s_examined) (defBody s_examined) (defScope s_examined) .none kV_examined dc_examined pm_examined an_examined cd_examined ct_examined), sl_examined⟩) (c_examined : PySem.W.codeIn K cd_examined "examined" = true) (k_examined : PySem.W.keepIn K (.ref x_examined) = true)
    (a_examine : PySem.W.nsIn K mainGlobals "examine" = some (some (.ref x_examine))) (l_examine : K.lookup x_examine = some ⟨oc_examine, od_examine, .func (PySem.W.fnOf "examine" "examine" (defArgs s_examine) (defBody s_examine) (defScope s_examine) .none kV_examine dc_examine pm_examine an_examine cd_examine ct_examine), sl_examine⟩) (c_examine : PySem.W.codeIn K cd_examine "examine" = true) (k_examine : PySem.W.keepIn K (.ref x_examine) = true)
    (a_law_cell : PySem.W.nsIn K mainGlobals "_law_cell" = some (some (.ref x_law_cell))) (l_law_cell : K.lookup x_law_cell = some ⟨oc_law_cell, od_law_cell, .func (PySem.W.fnOf "_law_cell" "_law_cell" (defArgs s_law_cell) (defBody s_law_cell) (defScope s_law_cell) .none kV_law_cell dc_law_cell pm_law_cell an_law_cell cd_law_cell ct_law_cell), sl_law_cell⟩) (c_law_cell : PySem.W.codeIn K cd_law_cell "_law_cell" = true) (k_law_cell : PySem.W.keepIn K (.ref x_law_cell) = true)
    (a_law_draws : PySem.W.nsIn K mainGlobals "_law_draws" = some (some (.ref x_law_draws))) (l_law_draws : K.lookup x_law_draws = some ⟨oc_law_draws, od_law_draws, .func (PySem.W.fnOf "_law_draws" "_law_draws" (defArgs s_law_draws) (defBody s_law_draws) (defScope s_law_draws) .none kV_law_draws dc_law_draws pm_law_draws an_law_draws cd_law_draws ct_law_draws), sl_law_draws⟩) (c_law_draws : PySem.W.codeIn K cd_law_draws "_law_draws" = true) (k_law_draws : PySem.W.keepIn K (.ref x_law_draws) = true)
    (a_law_value : PySem.W.nsIn K mainGlobals "_law_value" = some (some (.ref x_law_value))) (l_law_value : K.lookup x_law_value = some ⟨oc_law_value, od_law_value, .func (PySem.W.fnOf "_law_value" "_law_value" (defArgs s_law_value) (defBody s_law_value) (defScope s_law_value) .none kV_law_value dc_law_value pm_law_value an_law_value cd_law_value ct_law_value), sl_law_value⟩) (c_law_value : PySem.W.codeIn K cd_law_value "_law_value" = true) (k_law_value : PySem.W.keepIn K (.ref x_law_value) = true)
    (a_law_holds : PySem.W.nsIn K mainGlobals "_law_holds" = some (some (.ref x_law_holds))) (l_law_holds : K.lookup x_law_holds = some ⟨oc_law_holds, od_law_holds, .func (PySem.W.fnOf "_law_holds" "_law_holds" (defArgs s_law_holds) (defBody s_law_holds) (defScope s_law_holds) .none kV_law_holds dc_law_holds pm_law_holds an_law_holds cd_law_holds ct_law_holds), sl_law_holds⟩) (c_law_holds : PySem.W.codeIn K cd_law_holds "_law_holds" = true) (k_law_holds : PySem.W.keepIn K (.ref x_law_holds) = true)
    (a_law_all_hold : PySem.W.nsIn K mainGlobals "_law_all_hold" = some (some (.ref x_law_all_hold))) (l_law_all_hold : K.lookup x_law_all_hold = some ⟨oc_law_all_hold, od_law_all_hold, .func (PySem.W.fnOf "_law_all_hold" "_law_all_hold" (defArgs s_law_all_hold) (defBody s_law_all_hold) (defScope s_law_all_hold) .none kV_law_all_hold dc_law_all_hold pm_law_all_hold an_law_all_hold cd_law_all_hold ct_law_all_hold), sl_law_all_hold⟩) (c_law_all_hold : PySem.W.codeIn K cd_law_all_hold "_law_all_hold" = true) (k_law_all_hold : PySem.W.keepIn K (.ref x_law_all_hold) = true)
    (a_law_point : PySem.W.nsIn K mainGlobals "_law_point" = some (some (.ref x_law_point))) (l_law_point : K.lookup x_law_point = some ⟨oc_law_point, od_law_point, .func (PySem.W.fnOf "_law_point" "_law_point" (defArgs s_law_point) (defBody s_law_point) (defScope s_law_point) .none kV_law_point dc_law_point pm_law_point an_law_point cd_law_point ct_law_point), sl_law_point⟩) (c_law_point : PySem.W.codeIn K cd_law_point "_law_point" = true) (k_law_point : PySem.W.keepIn K (.ref x_law_point) = true)
    (a_law_constraint : PySem.W.nsIn K mainGlobals "_law_constraint" = some (some (.ref x_law_constraint))) (l_law_constraint : K.lookup x_law_constraint = some ⟨oc_law_constraint, od_law_constraint, .func (PySem.W.fnOf "_law_constraint" "_law_constraint" (defArgs s_law_constraint) (defBody s_law_constraint) (defScope s_law_constraint) .none kV_law_constraint dc_law_constraint pm_law_constraint an_law_constraint cd_law_constraint ct_law_constraint), sl_law_constraint⟩) (c_law_constraint : PySem.W.codeIn K cd_law_constraint "_law_constraint" = true) (k_law_constraint : PySem.W.keepIn K (.ref x_law_constraint) = true)
    (a_law_rows : PySem.W.nsIn K mainGlobals "_law_rows" = some (some (.ref x_law_rows))) (l_law_rows : K.lookup x_law_rows = some ⟨oc_law_rows, od_law_rows, .func (PySem.W.fnOf "_law_rows" "_law_rows" (defArgs s_law_rows) (defBody s_law_rows) (defScope s_law_rows) .none kV_law_rows dc_law_rows pm_law_rows an_law_rows cd_law_rows ct_law_rows), sl_law_rows⟩) (c_law_rows : PySem.W.codeIn K cd_law_rows "_law_rows" = true) (k_law_rows : PySem.W.keepIn K (.ref x_law_rows) = true)
    (a_law_impossible : PySem.W.nsIn K mainGlobals "_law_impossible" = some (some (.ref x_law_impossible))) (l_law_impossible : K.lookup x_law_impossible = some ⟨oc_law_impossible, od_law_impossible, .func (PySem.W.fnOf "_law_impossible" "_law_impossible" (defArgs s_law_impossible) (defBody s_law_impossible) (defScope s_law_impossible) .none kV_law_impossible dc_law_impossible pm_law_impossible an_law_impossible cd_law_impossible ct_law_impossible), sl_law_impossible⟩) (c_law_impossible : PySem.W.codeIn K cd_law_impossible "_law_impossible" = true) (k_law_impossible : PySem.W.keepIn K (.ref x_law_impossible) = true)
    (a_law_refuted : PySem.W.nsIn K mainGlobals "_law_refuted" = some (some (.ref x_law_refuted))) (l_law_refuted : K.lookup x_law_refuted = some ⟨oc_law_refuted, od_law_refuted, .func (PySem.W.fnOf "_law_refuted" "_law_refuted" (defArgs s_law_refuted) (defBody s_law_refuted) (defScope s_law_refuted) .none kV_law_refuted dc_law_refuted pm_law_refuted an_law_refuted cd_law_refuted ct_law_refuted), sl_law_refuted⟩) (c_law_refuted : PySem.W.codeIn K cd_law_refuted "_law_refuted" = true) (k_law_refuted : PySem.W.keepIn K (.ref x_law_refuted) = true)
    (a_law : PySem.W.nsIn K mainGlobals "law" = some (some (.ref x_law))) (l_law : K.lookup x_law = some ⟨oc_law, od_law, .func (PySem.W.fnOf "law" "law" (defArgs s_law) (defBody s_law) (defScope s_law) .none kV_law dc_law pm_law an_law cd_law ct_law), sl_law⟩) (c_law : PySem.W.codeIn K cd_law "law" = true) (k_law : PySem.W.keepIn K (.ref x_law) = true)
    (z_isinstance : PySem.W.nsIn K mainGlobals "isinstance" = some none)
    (z_bool : PySem.W.nsIn K mainGlobals "bool" = some none)
    (z_int : PySem.W.nsIn K mainGlobals "int" = some none)
    (z_all : PySem.W.nsIn K mainGlobals "all" = some none)
    (z_len : PySem.W.nsIn K mainGlobals "len" = some none)
    (z_tuple : PySem.W.nsIn K mainGlobals "tuple" = some none)
    (z_min : PySem.W.nsIn K mainGlobals "min" = some none)
    (z_sum : PySem.W.nsIn K mainGlobals "sum" = some none)
    (z_any : PySem.W.nsIn K mainGlobals "any" = some none)
    (z_abs : PySem.W.nsIn K mainGlobals "abs" = some none)
    (z_enumerate : PySem.W.nsIn K mainGlobals "enumerate" = some none)
    (z_range : PySem.W.nsIn K mainGlobals "range" = some none)
    (z_zip : PySem.W.nsIn K mainGlobals "zip" = some none)
    (u_gcd : PySem.W.nsIn K mainGlobals "gcd" = some (some (.builtin "math.gcd")))
    (m_MOST_EFFORT : PySem.W.nsIn K mainGlobals "MOST_EFFORT" = some (some (.int 2000 t_MOST_EFFORT)))
    (m_MOST_WEIGHT : PySem.W.nsIn K mainGlobals "MOST_WEIGHT" = some (some (.int 4000 t_MOST_WEIGHT)))
    (m_MOST_VARIABLES : PySem.W.nsIn K mainGlobals "MOST_VARIABLES" = some (some (.int 40 t_MOST_VARIABLES)))
    (m_GREATEST : PySem.W.nsIn K mainGlobals "GREATEST" = some (some (.int 1000000000000000000 t_GREATEST))) :
    ∃ A : Ad, Txt K mg A ∧ A.f_law = fa ∧ (∀ (s : Shared) (v : Value), BindsTo s A.d_law ⟨[v], []⟩ [("script", v)]) := by
  have e := hfa.symm.trans (PySem.W.mg_of X G a_law)
  cases e
  have F_is_integer := fun_mk (st := s_is_integer) l_is_integer c_is_integer k_is_integer
  have B_is_integer := F_is_integer.binds (ps := ["value"]) fun _ _ _ _ _ _ us hl => match us, hl with | [_], _ => rfl
  have F_is_tuple_of_integers := fun_mk (st := s_is_tuple_of_integers) l_is_tuple_of_integers c_is_tuple_of_integers k_is_tuple_of_integers
  have B_is_tuple_of_integers := F_is_tuple_of_integers.binds (ps := ["value", "count"]) fun _ _ _ _ _ _ us hl => match us, hl with | [_, _], _ => rfl
  have F_is_constraint := fun_mk (st := s_is_constraint) l_is_constraint c_is_constraint k_is_constraint
  have B_is_constraint := F_is_constraint.binds (ps := ["row", "variables"]) fun _ _ _ _ _ _ us hl => match us, hl with | [_, _], _ => rfl
  have F_impossible := fun_mk (st := s_impossible) l_impossible c_impossible k_impossible
  have B_impossible := F_impossible.binds (ps := ["variables"]) fun _ _ _ _ _ _ us hl => match us, hl with | [_], _ => rfl
  have F_common_divisor := fun_mk (st := s_common_divisor) l_common_divisor c_common_divisor k_common_divisor
  have B_common_divisor := F_common_divisor.binds (ps := ["first", "numbers"]) fun _ _ _ _ _ _ us hl => match us, hl with | [_, _], _ => rfl
  have F_divided := fun_mk (st := s_divided) l_divided c_divided k_divided
  have B_divided := F_divided.binds (ps := ["expression", "divisor"]) fun _ _ _ _ _ _ us hl => match us, hl with | [_, _], _ => rfl
  have F_reduced_inequality := fun_mk (st := s_reduced_inequality) l_reduced_inequality c_reduced_inequality k_reduced_inequality
  have B_reduced_inequality := F_reduced_inequality.binds (ps := ["divisor", "expression"]) fun _ _ _ _ _ _ us hl => match us, hl with | [_, _], _ => rfl
  have F_reduced_equation := fun_mk (st := s_reduced_equation) l_reduced_equation c_reduced_equation k_reduced_equation
  have B_reduced_equation := F_reduced_equation.binds (ps := ["divisor", "expression"]) fun _ _ _ _ _ _ us hl => match us, hl with | [_, _], _ => rfl
  have F_reduced_multiple := fun_mk (st := s_reduced_multiple) l_reduced_multiple c_reduced_multiple k_reduced_multiple
  have B_reduced_multiple := F_reduced_multiple.binds (ps := ["m", "expression"]) fun _ _ _ _ _ _ us hl => match us, hl with | [_, _], _ => rfl
  have F_reduced_constraint := fun_mk (st := s_reduced_constraint) l_reduced_constraint c_reduced_constraint k_reduced_constraint
  have B_reduced_constraint := F_reduced_constraint.binds (ps := ["constraint"]) fun _ _ _ _ _ _ us hl => match us, hl with | [_], _ => rfl
  have F_reduced_rows := fun_mk (st := s_reduced_rows) l_reduced_rows c_reduced_rows k_reduced_rows
  have B_reduced_rows := F_reduced_rows.binds (ps := ["variables", "rows"]) fun _ _ _ _ _ _ us hl => match us, hl with | [_, _], _ => rfl
  have F_System___init__ := fun_mk (st := s_System___init__) l_System___init__ c_System___init__ k_System___init__
  have B_System___init__ := F_System___init__.binds (ps := ["self", "variables", "rows"]) fun _ _ _ _ _ _ us hl => match us, hl with | [_, _, _], _ => rfl
  have F_System_is_impossible := fun_mk (st := s_System_is_impossible) l_System_is_impossible c_System_is_impossible k_System_is_impossible
  have B_System_is_impossible := F_System_is_impossible.binds (ps := ["self"]) fun _ _ _ _ _ _ us hl => match us, hl with | [_], _ => rfl
  have F_System_reduced := fun_mk (st := s_System_reduced) l_System_reduced c_System_reduced k_System_reduced
  have B_System_reduced := F_System_reduced.binds (ps := ["self"]) fun _ _ _ _ _ _ us hl => match us, hl with | [_], _ => rfl
  have F_closed := fun_mk (st := s_closed) l_closed c_closed k_closed
  have B_closed := F_closed.binds (ps := ["system"]) fun _ _ _ _ _ _ us hl => match us, hl with | [_], _ => rfl
  have F_made_by := fun_mk (st := s_made_by) l_made_by c_made_by k_made_by
  have B_made_by := F_made_by.binds (ps := ["system", "step"]) fun _ _ _ _ _ _ us hl => match us, hl with | [_, _], _ => rfl
  have F_check_left := fun_mk (st := s_check_left) l_check_left c_check_left k_check_left
  have B_check_left := F_check_left.binds (ps := ["systems"]) fun _ _ _ _ _ _ us hl => match us, hl with | [_], _ => rfl
  have F_check_numbers := fun_mk (st := s_check_numbers) l_check_numbers c_check_numbers k_check_numbers
  have B_check_numbers := F_check_numbers.binds (ps := ["systems"]) fun _ _ _ _ _ _ us hl => match us, hl with | [_], _ => rfl
  have F_left_behind := fun_mk (st := s_left_behind) l_left_behind c_left_behind k_left_behind
  have B_left_behind := F_left_behind.binds (ps := ["left", "steps", "make"]) fun _ _ _ _ _ _ us hl => match us, hl with | [_, _, _], _ => rfl
  have F_remaining := fun_mk (st := s_remaining) l_remaining c_remaining k_remaining
  have B_remaining := F_remaining.binds (ps := ["system", "steps"]) fun _ _ _ _ _ _ us hl => match us, hl with | [_, _], _ => rfl
  have F_refutes := fun_mk (st := s_refutes) l_refutes c_refutes k_refutes
  have B_refutes := F_refutes.binds (ps := ["system", "steps"]) fun _ _ _ _ _ _ us hl => match us, hl with | [_, _], _ => rfl
  have F_lifted := fun_mk (st := s_lifted) l_lifted c_lifted k_lifted
  have B_lifted := F_lifted.binds (ps := ["point", "trail"]) fun _ _ _ _ _ _ us hl => match us, hl with | [_, _], _ => rfl
  have F_Budget___init__ := fun_mk (st := s_Budget___init__) l_Budget___init__ c_Budget___init__ k_Budget___init__
  have B_Budget___init__ := F_Budget___init__.binds (ps := ["self", "effort"]) fun _ _ _ _ _ _ us hl => match us, hl with | [_, _], _ => rfl
  have F_Budget_spend := fun_mk (st := s_Budget_spend) l_Budget_spend c_Budget_spend k_Budget_spend
  have B_Budget_spend := F_Budget_spend.binds (ps := ["self"]) fun _ _ _ _ _ _ us hl => match us, hl with | [_], _ => rfl
  have F_Examination___init__ := fun_mk (st := s_Examination___init__) l_Examination___init__ c_Examination___init__ k_Examination___init__
  have B_Examination___init__ := F_Examination___init__.binds (ps := ["self", "system"]) fun _ _ _ _ _ _ us hl => match us, hl with | [_, _], _ => rfl
  have F_Examination_take := fun_mk (st := s_Examination_take) l_Examination_take c_Examination_take k_Examination_take
  have B_Examination_take := F_Examination_take.binds (ps := ["self", "steps"]) fun _ _ _ _ _ _ us hl => match us, hl with | [_, _], _ => rfl
  have F_Examination_look := fun_mk (st := s_Examination_look) l_Examination_look c_Examination_look k_Examination_look
  have B_Examination_look := F_Examination_look.binds (ps := ["self"]) fun _ _ _ _ _ _ us hl => match us, hl with | [_], _ => rfl
  have F_examined := fun_mk (st := s_examined) l_examined c_examined k_examined
  have B_examined := F_examined.binds (ps := ["system", "budget"]) fun _ _ _ _ _ _ us hl => match us, hl with | [_, _], _ => rfl
  have F_examine := fun_mk (st := s_examine) l_examine c_examine k_examine
  have F_law_cell := fun_mk (st := s_law_cell) l_law_cell c_law_cell k_law_cell
  have B_law_cell := F_law_cell.binds (ps := ["script", "k"]) fun _ _ _ _ _ _ us hl => match us, hl with | [_, _], _ => rfl
  have F_law_draws := fun_mk (st := s_law_draws) l_law_draws c_law_draws k_law_draws
  have B_law_draws := F_law_draws.binds (ps := ["cell", "count"]) fun _ _ _ _ _ _ us hl => match us, hl with | [_, _], _ => rfl
  have F_law_value := fun_mk (st := s_law_value) l_law_value c_law_value k_law_value
  have B_law_value := F_law_value.binds (ps := ["expression", "point"]) fun _ _ _ _ _ _ us hl => match us, hl with | [_, _], _ => rfl
  have F_law_holds := fun_mk (st := s_law_holds) l_law_holds c_law_holds k_law_holds
  have B_law_holds := F_law_holds.binds (ps := ["constraint", "point"]) fun _ _ _ _ _ _ us hl => match us, hl with | [_, _], _ => rfl
  have F_law_all_hold := fun_mk (st := s_law_all_hold) l_law_all_hold c_law_all_hold k_law_all_hold
  have B_law_all_hold := F_law_all_hold.binds (ps := ["rows", "point"]) fun _ _ _ _ _ _ us hl => match us, hl with | [_, _], _ => rfl
  have F_law_point := fun_mk (st := s_law_point) l_law_point c_law_point k_law_point
  have B_law_point := F_law_point.binds (ps := ["cell", "variables"]) fun _ _ _ _ _ _ us hl => match us, hl with | [_, _], _ => rfl
  have F_law_constraint := fun_mk (st := s_law_constraint) l_law_constraint c_law_constraint k_law_constraint
  have B_law_constraint := F_law_constraint.binds (ps := ["cell", "point"]) fun _ _ _ _ _ _ us hl => match us, hl with | [_, _], _ => rfl
  have F_law_rows := fun_mk (st := s_law_rows) l_law_rows c_law_rows k_law_rows
  have B_law_rows := F_law_rows.binds (ps := ["script", "start", "count", "point"]) fun _ _ _ _ _ _ us hl => match us, hl with | [_, _, _, _], _ => rfl
  have F_law_impossible := fun_mk (st := s_law_impossible) l_law_impossible c_law_impossible k_law_impossible
  have B_law_impossible := F_law_impossible.binds (ps := ["cell", "variables"]) fun _ _ _ _ _ _ us hl => match us, hl with | [_, _], _ => rfl
  have F_law_refuted := fun_mk (st := s_law_refuted) l_law_refuted c_law_refuted k_law_refuted
  have B_law_refuted := F_law_refuted.binds (ps := ["system", "found"]) fun _ _ _ _ _ _ us hl => match us, hl with | [_, _], _ => rfl
  have F_law := fun_mk (st := s_law) l_law c_law k_law
  have B_law := F_law.binds (ps := ["script"]) fun _ _ _ _ _ _ us hl => match us, hl with | [_], _ => rfl
  exact ⟨{ f_is_integer := x_is_integer, f_is_tuple_of_integers := x_is_tuple_of_integers, f_is_constraint := x_is_constraint, f_impossible := x_impossible, f_common_divisor := x_common_divisor, f_divided := x_divided, f_reduced_inequality := x_reduced_inequality, f_reduced_equation := x_reduced_equation, f_reduced_multiple := x_reduced_multiple, f_reduced_constraint := x_reduced_constraint, f_reduced_rows := x_reduced_rows, f_System___init__ := x_System___init__, f_System_is_impossible := x_System_is_impossible, f_System_reduced := x_System_reduced, f_closed := x_closed, f_made_by := x_made_by, f_check_left := x_check_left, f_check_numbers := x_check_numbers, f_left_behind := x_left_behind, f_remaining := x_remaining, f_refutes := x_refutes, f_lifted := x_lifted, f_Budget___init__ := x_Budget___init__, f_Budget_spend := x_Budget_spend, f_Examination___init__ := x_Examination___init__, f_Examination_take := x_Examination_take, f_Examination_look := x_Examination_look, f_examined := x_examined, f_examine := x_examine, f_law_cell := x_law_cell, f_law_draws := x_law_draws, f_law_value := x_law_value, f_law_holds := x_law_holds, f_law_all_hold := x_law_all_hold, f_law_point := x_law_point, f_law_constraint := x_law_constraint, f_law_rows := x_law_rows, f_law_impossible := x_law_impossible, f_law_refuted := x_law_refuted, f_law := fa, d_is_integer := PySem.W.fnOf "is_integer" "is_integer" (defArgs s_is_integer) (defBody s_is_integer) (defScope s_is_integer) .none kV_is_integer dc_is_integer pm_is_integer an_is_integer cd_is_integer ct_is_integer, d_is_tuple_of_integers := PySem.W.fnOf "is_tuple_of_integers" "is_tuple_of_integers" (defArgs s_is_tuple_of_integers) (defBody s_is_tuple_of_integers) (defScope s_is_tuple_of_integers) .none kV_is_tuple_of_integers dc_is_tuple_of_integers pm_is_tuple_of_integers an_is_tuple_of_integers cd_is_tuple_of_integers ct_is_tuple_of_integers, d_is_constraint := PySem.W.fnOf "is_constraint" "is_constraint" (defArgs s_is_constraint) (defBody s_is_constraint) (defScope s_is_constraint) .none kV_is_constraint dc_is_constraint pm_is_constraint an_is_constraint cd_is_constraint ct_is_constraint, d_impossible := PySem.W.fnOf "impossible" "impossible" (defArgs s_impossible) (defBody s_impossible) (defScope s_impossible) .none kV_impossible dc_impossible pm_impossible an_impossible cd_impossible ct_impossible, d_common_divisor := PySem.W.fnOf "common_divisor" "common_divisor" (defArgs s_common_divisor) (defBody s_common_divisor) (defScope s_common_divisor) .none kV_common_divisor dc_common_divisor pm_common_divisor an_common_divisor cd_common_divisor ct_common_divisor, d_divided := PySem.W.fnOf "divided" "divided" (defArgs s_divided) (defBody s_divided) (defScope s_divided) .none kV_divided dc_divided pm_divided an_divided cd_divided ct_divided, d_reduced_inequality := PySem.W.fnOf "reduced_inequality" "reduced_inequality" (defArgs s_reduced_inequality) (defBody s_reduced_inequality) (defScope s_reduced_inequality) .none kV_reduced_inequality dc_reduced_inequality pm_reduced_inequality an_reduced_inequality cd_reduced_inequality ct_reduced_inequality, d_reduced_equation := PySem.W.fnOf "reduced_equation" "reduced_equation" (defArgs s_reduced_equation) (defBody s_reduced_equation) (defScope s_reduced_equation) .none kV_reduced_equation dc_reduced_equation pm_reduced_equation an_reduced_equation cd_reduced_equation ct_reduced_equation, d_reduced_multiple := PySem.W.fnOf "reduced_multiple" "reduced_multiple" (defArgs s_reduced_multiple) (defBody s_reduced_multiple) (defScope s_reduced_multiple) .none kV_reduced_multiple dc_reduced_multiple pm_reduced_multiple an_reduced_multiple cd_reduced_multiple ct_reduced_multiple, d_reduced_constraint := PySem.W.fnOf "reduced_constraint" "reduced_constraint" (defArgs s_reduced_constraint) (defBody s_reduced_constraint) (defScope s_reduced_constraint) .none kV_reduced_constraint dc_reduced_constraint pm_reduced_constraint an_reduced_constraint cd_reduced_constraint ct_reduced_constraint, d_reduced_rows := PySem.W.fnOf "reduced_rows" "reduced_rows" (defArgs s_reduced_rows) (defBody s_reduced_rows) (defScope s_reduced_rows) .none kV_reduced_rows dc_reduced_rows pm_reduced_rows an_reduced_rows cd_reduced_rows ct_reduced_rows, d_System___init__ := PySem.W.fnOf "__init__" "System.__init__" (defArgs s_System___init__) (defBody s_System___init__) (defScope s_System___init__) .none kV_System___init__ dc_System___init__ pm_System___init__ an_System___init__ cd_System___init__ ct_System___init__, d_System_is_impossible := PySem.W.fnOf "is_impossible" "System.is_impossible" (defArgs s_System_is_impossible) (defBody s_System_is_impossible) (defScope s_System_is_impossible) .none kV_System_is_impossible dc_System_is_impossible pm_System_is_impossible an_System_is_impossible cd_System_is_impossible ct_System_is_impossible, d_System_reduced := PySem.W.fnOf "reduced" "System.reduced" (defArgs s_System_reduced) (defBody s_System_reduced) (defScope s_System_reduced) .none kV_System_reduced dc_System_reduced pm_System_reduced an_System_reduced cd_System_reduced ct_System_reduced, d_closed := PySem.W.fnOf "closed" "closed" (defArgs s_closed) (defBody s_closed) (defScope s_closed) .none kV_closed dc_closed pm_closed an_closed cd_closed ct_closed, d_made_by := PySem.W.fnOf "made_by" "made_by" (defArgs s_made_by) (defBody s_made_by) (defScope s_made_by) .none kV_made_by dc_made_by pm_made_by an_made_by cd_made_by ct_made_by, d_check_left := PySem.W.fnOf "check_left" "check_left" (defArgs s_check_left) (defBody s_check_left) (defScope s_check_left) .none kV_check_left dc_check_left pm_check_left an_check_left cd_check_left ct_check_left, d_check_numbers := PySem.W.fnOf "check_numbers" "check_numbers" (defArgs s_check_numbers) (defBody s_check_numbers) (defScope s_check_numbers) .none kV_check_numbers dc_check_numbers pm_check_numbers an_check_numbers cd_check_numbers ct_check_numbers, d_left_behind := PySem.W.fnOf "left_behind" "left_behind" (defArgs s_left_behind) (defBody s_left_behind) (defScope s_left_behind) .none kV_left_behind dc_left_behind pm_left_behind an_left_behind cd_left_behind ct_left_behind, d_remaining := PySem.W.fnOf "remaining" "remaining" (defArgs s_remaining) (defBody s_remaining) (defScope s_remaining) .none kV_remaining dc_remaining pm_remaining an_remaining cd_remaining ct_remaining, d_refutes := PySem.W.fnOf "refutes" "refutes" (defArgs s_refutes) (defBody s_refutes) (defScope s_refutes) .none kV_refutes dc_refutes pm_refutes an_refutes cd_refutes ct_refutes, d_lifted := PySem.W.fnOf "lifted" "lifted" (defArgs s_lifted) (defBody s_lifted) (defScope s_lifted) .none kV_lifted dc_lifted pm_lifted an_lifted cd_lifted ct_lifted, d_Budget___init__ := PySem.W.fnOf "__init__" "Budget.__init__" (defArgs s_Budget___init__) (defBody s_Budget___init__) (defScope s_Budget___init__) .none kV_Budget___init__ dc_Budget___init__ pm_Budget___init__ an_Budget___init__ cd_Budget___init__ ct_Budget___init__, d_Budget_spend := PySem.W.fnOf "spend" "Budget.spend" (defArgs s_Budget_spend) (defBody s_Budget_spend) (defScope s_Budget_spend) .none kV_Budget_spend dc_Budget_spend pm_Budget_spend an_Budget_spend cd_Budget_spend ct_Budget_spend, d_Examination___init__ := PySem.W.fnOf "__init__" "Examination.__init__" (defArgs s_Examination___init__) (defBody s_Examination___init__) (defScope s_Examination___init__) .none kV_Examination___init__ dc_Examination___init__ pm_Examination___init__ an_Examination___init__ cd_Examination___init__ ct_Examination___init__, d_Examination_take := PySem.W.fnOf "take" "Examination.take" (defArgs s_Examination_take) (defBody s_Examination_take) (defScope s_Examination_take) .none kV_Examination_take dc_Examination_take pm_Examination_take an_Examination_take cd_Examination_take ct_Examination_take, d_Examination_look := PySem.W.fnOf "look" "Examination.look" (defArgs s_Examination_look) (defBody s_Examination_look) (defScope s_Examination_look) .none kV_Examination_look dc_Examination_look pm_Examination_look an_Examination_look cd_Examination_look ct_Examination_look, d_examined := PySem.W.fnOf "examined" "examined" (defArgs s_examined) (defBody s_examined) (defScope s_examined) .none kV_examined dc_examined pm_examined an_examined cd_examined ct_examined, d_examine := PySem.W.fnOf "examine" "examine" (defArgs s_examine) (defBody s_examine) (defScope s_examine) .none kV_examine dc_examine pm_examine an_examine cd_examine ct_examine, d_law_cell := PySem.W.fnOf "_law_cell" "_law_cell" (defArgs s_law_cell) (defBody s_law_cell) (defScope s_law_cell) .none kV_law_cell dc_law_cell pm_law_cell an_law_cell cd_law_cell ct_law_cell, d_law_draws := PySem.W.fnOf "_law_draws" "_law_draws" (defArgs s_law_draws) (defBody s_law_draws) (defScope s_law_draws) .none kV_law_draws dc_law_draws pm_law_draws an_law_draws cd_law_draws ct_law_draws, d_law_value := PySem.W.fnOf "_law_value" "_law_value" (defArgs s_law_value) (defBody s_law_value) (defScope s_law_value) .none kV_law_value dc_law_value pm_law_value an_law_value cd_law_value ct_law_value, d_law_holds := PySem.W.fnOf "_law_holds" "_law_holds" (defArgs s_law_holds) (defBody s_law_holds) (defScope s_law_holds) .none kV_law_holds dc_law_holds pm_law_holds an_law_holds cd_law_holds ct_law_holds, d_law_all_hold := PySem.W.fnOf "_law_all_hold" "_law_all_hold" (defArgs s_law_all_hold) (defBody s_law_all_hold) (defScope s_law_all_hold) .none kV_law_all_hold dc_law_all_hold pm_law_all_hold an_law_all_hold cd_law_all_hold ct_law_all_hold, d_law_point := PySem.W.fnOf "_law_point" "_law_point" (defArgs s_law_point) (defBody s_law_point) (defScope s_law_point) .none kV_law_point dc_law_point pm_law_point an_law_point cd_law_point ct_law_point, d_law_constraint := PySem.W.fnOf "_law_constraint" "_law_constraint" (defArgs s_law_constraint) (defBody s_law_constraint) (defScope s_law_constraint) .none kV_law_constraint dc_law_constraint pm_law_constraint an_law_constraint cd_law_constraint ct_law_constraint, d_law_rows := PySem.W.fnOf "_law_rows" "_law_rows" (defArgs s_law_rows) (defBody s_law_rows) (defScope s_law_rows) .none kV_law_rows dc_law_rows pm_law_rows an_law_rows cd_law_rows ct_law_rows, d_law_impossible := PySem.W.fnOf "_law_impossible" "_law_impossible" (defArgs s_law_impossible) (defBody s_law_impossible) (defScope s_law_impossible) .none kV_law_impossible dc_law_impossible pm_law_impossible an_law_impossible cd_law_impossible ct_law_impossible, d_law_refuted := PySem.W.fnOf "_law_refuted" "_law_refuted" (defArgs s_law_refuted) (defBody s_law_refuted) (defScope s_law_refuted) .none kV_law_refuted dc_law_refuted pm_law_refuted an_law_refuted cd_law_refuted ct_law_refuted, d_law := PySem.W.fnOf "law" "law" (defArgs s_law) (defBody s_law) (defScope s_law) .none kV_law dc_law pm_law an_law cd_law ct_law, t_MOST_EFFORT := t_MOST_EFFORT, t_MOST_WEIGHT := t_MOST_WEIGHT, t_MOST_VARIABLES := t_MOST_VARIABLES, t_GREATEST := t_GREATEST, C_System := x_System, C_Budget := x_Budget, C_Examination := x_Examination, p_System_is_impossible := y_System_is_impossible },
   { b_isinstance := PySem.W.mg_none_of X G z_isinstance, b_bool := PySem.W.mg_none_of X G z_bool, b_int := PySem.W.mg_none_of X G z_int, b_all := PySem.W.mg_none_of X G z_all, b_len := PySem.W.mg_none_of X G z_len, b_tuple := PySem.W.mg_none_of X G z_tuple, b_min := PySem.W.mg_none_of X G z_min, b_sum := PySem.W.mg_none_of X G z_sum, b_any := PySem.W.mg_none_of X G z_any, b_abs := PySem.W.mg_none_of X G z_abs, b_enumerate := PySem.W.mg_none_of X G z_enumerate, b_range := PySem.W.mg_none_of X G z_range, b_zip := PySem.W.mg_none_of X G z_zip, u_gcd := PySem.W.mg_of X G u_gcd, g_is_integer := PySem.W.mg_of X G a_is_integer, F_is_integer := F_is_integer, B_is_integer := B_is_integer, g_is_tuple_of_integers := PySem.W.mg_of X G a_is_tuple_of_integers, F_is_tuple_of_integers := F_is_tuple_of_integers, B_is_tuple_of_integers := B_is_tuple_of_integers, g_is_constraint := PySem.W.mg_of X G a_is_constraint, F_is_constraint := F_is_constraint, B_is_constraint := B_is_constraint, g_impossible := PySem.W.mg_of X G a_impossible, F_impossible := F_impossible, B_impossible := B_impossible, g_common_divisor := PySem.W.mg_of X G a_common_divisor, F_common_divisor := F_common_divisor, B_common_divisor := B_common_divisor, g_divided := PySem.W.mg_of X G a_divided, F_divided := F_divided, B_divided := B_divided, g_reduced_inequality := PySem.W.mg_of X G a_reduced_inequality, F_reduced_inequality := F_reduced_inequality, B_reduced_inequality := B_reduced_inequality, g_reduced_equation := PySem.W.mg_of X G a_reduced_equation, F_reduced_equation := F_reduced_equation, B_reduced_equation := B_reduced_equation, g_reduced_multiple := PySem.W.mg_of X G a_reduced_multiple, F_reduced_multiple := F_reduced_multiple, B_reduced_multiple := B_reduced_multiple, g_reduced_constraint := PySem.W.mg_of X G a_reduced_constraint, F_reduced_constraint := F_reduced_constraint, B_reduced_constraint := B_reduced_constraint, g_reduced_rows := PySem.W.mg_of X G a_reduced_rows, F_reduced_rows := F_reduced_rows, B_reduced_rows := B_reduced_rows, me_System___init__ := ⟨a_System___init__, i_System___init__, k_System___init__⟩, F_System___init__ := F_System___init__, B_System___init__ := B_System___init__, pr_System_is_impossible := ⟨a_System_is_impossible, g_System_is_impossible, t_System_is_impossible, _, r_System_is_impossible⟩, F_System_is_impossible := F_System_is_impossible, B_System_is_impossible := B_System_is_impossible, me_System_reduced := ⟨a_System_reduced, i_System_reduced, k_System_reduced⟩, F_System_reduced := F_System_reduced, B_System_reduced := B_System_reduced, g_closed := PySem.W.mg_of X G a_closed, F_closed := F_closed, B_closed := B_closed, g_made_by := PySem.W.mg_of X G a_made_by, F_made_by := F_made_by, B_made_by := B_made_by, g_check_left := PySem.W.mg_of X G a_check_left, F_check_left := F_check_left, B_check_left := B_check_left, g_check_numbers := PySem.W.mg_of X G a_check_numbers, F_check_numbers := F_check_numbers, B_check_numbers := B_check_numbers, g_left_behind := PySem.W.mg_of X G a_left_behind, F_left_behind := F_left_behind, B_left_behind := B_left_behind, g_remaining := PySem.W.mg_of X G a_remaining, F_remaining := F_remaining, B_remaining := B_remaining, g_refutes := PySem.W.mg_of X G a_refutes, F_refutes := F_refutes, B_refutes := B_refutes, g_lifted := PySem.W.mg_of X G a_lifted, F_lifted := F_lifted, B_lifted := B_lifted, me_Budget___init__ := ⟨a_Budget___init__, i_Budget___init__, k_Budget___init__⟩, F_Budget___init__ := F_Budget___init__, B_Budget___init__ := B_Budget___init__, me_Budget_spend := ⟨a_Budget_spend, i_Budget_spend, k_Budget_spend⟩, F_Budget_spend := F_Budget_spend, B_Budget_spend := B_Budget_spend, me_Examination___init__ := ⟨a_Examination___init__, i_Examination___init__, k_Examination___init__⟩, F_Examination___init__ := F_Examination___init__, B_Examination___init__ := B_Examination___init__, me_Examination_take := ⟨a_Examination_take, i_Examination_take, k_Examination_take⟩, F_Examination_take := F_Examination_take, B_Examination_take := B_Examination_take, me_Examination_look := ⟨a_Examination_look, i_Examination_look, k_Examination_look⟩, F_Examination_look := F_Examination_look, B_Examination_look := B_Examination_look, g_examined := PySem.W.mg_of X G a_examined, F_examined := F_examined, B_examined := B_examined, g_examine := PySem.W.mg_of X G a_examine, F_examine := F_examine, g_law_cell := PySem.W.mg_of X G a_law_cell, F_law_cell := F_law_cell, B_law_cell := B_law_cell, g_law_draws := PySem.W.mg_of X G a_law_draws, F_law_draws := F_law_draws, B_law_draws := B_law_draws, g_law_value := PySem.W.mg_of X G a_law_value, F_law_value := F_law_value, B_law_value := B_law_value, g_law_holds := PySem.W.mg_of X G a_law_holds, F_law_holds := F_law_holds, B_law_holds := B_law_holds, g_law_all_hold := PySem.W.mg_of X G a_law_all_hold, F_law_all_hold := F_law_all_hold, B_law_all_hold := B_law_all_hold, g_law_point := PySem.W.mg_of X G a_law_point, F_law_point := F_law_point, B_law_point := B_law_point, g_law_constraint := PySem.W.mg_of X G a_law_constraint, F_law_constraint := F_law_constraint, B_law_constraint := B_law_constraint, g_law_rows := PySem.W.mg_of X G a_law_rows, F_law_rows := F_law_rows, B_law_rows := B_law_rows, g_law_impossible := PySem.W.mg_of X G a_law_impossible, F_law_impossible := F_law_impossible, B_law_impossible := B_law_impossible, g_law_refuted := PySem.W.mg_of X G a_law_refuted, F_law_refuted := F_law_refuted, B_law_refuted := B_law_refuted, g_law := PySem.W.mg_of X G a_law, F_law := F_law, B_law := B_law, g_MOST_EFFORT := PySem.W.mg_of X G m_MOST_EFFORT, g_MOST_WEIGHT := PySem.W.mg_of X G m_MOST_WEIGHT, g_MOST_VARIABLES := PySem.W.mg_of X G m_MOST_VARIABLES, g_GREATEST := PySem.W.mg_of X G m_GREATEST, gC_System := PySem.W.mg_of X G a_System, cl_System := ⟨pg_System, hd_System, po_System, sa_System⟩, mk_System := ⟨mk_System, a_System___init__, i_System___init__, kc_System⟩, na_System_variables := n_System_variables, na_System_rows := n_System_rows, is_System := ⟨⟨pg_System, hd_System, po_System, sa_System⟩, q1_System, q2_System, q3_System, q4_System, kit_self⟩, gC_Budget := PySem.W.mg_of X G a_Budget, cl_Budget := ⟨pg_Budget, hd_Budget, po_Budget, sa_Budget⟩, mk_Budget := ⟨mk_Budget, a_Budget___init__, i_Budget___init__, kc_Budget⟩, na_Budget_looks := n_Budget_looks, gC_Examination := PySem.W.mg_of X G a_Examination, cl_Examination := ⟨pg_Examination, hd_Examination, po_Examination, sa_Examination⟩, mk_Examination := ⟨mk_Examination, a_Examination___init__, i_Examination___init__, kc_Examination⟩, na_Examination_left := n_Examination_left, na_Examination_trails := n_Examination_trails, na_Examination_steps := n_Examination_steps }, rfl, fun s v => .of_eq rfl⟩
end K78
open PySem PySem.W PyProof.Rows in
set_option maxRecDepth 100000 in
set_option maxHeartbeats 0 in
theorem PySem.Challenge.cw_loopworks_k78_what_is_never_given_up_holds : PySem.Challenge.rw_loopworks_k78_what_is_never_given_up.Holds := by
  w_on; o_law; k_head; (case hw => w_witness2)
  k_fill
  refine L2.walk_ofB (l := PySem.Challenge.rw_loopworks_k78_what_is_never_given_up) (n := 63) (k := 14) (x := "script") (CX := fun _ => L2.CX0) (sp := fun w => K78.sp_law _) rfl (by decide) rfl ⟨rfl, by decide, by decide⟩ (fun w h Y => PySem.W.kIn_of Y) ?F (fun _ H a ns hl hb hO hS => K78.sp_law_of hl hb hO hS) (fun _ _ _ _ _ h => h)
  case F =>
    intro w mg fa h KX G hmg
    obtain ⟨A, T, e, hb⟩ : ∃ A : K78.Ad, K78.Txt _ mg A ∧ A.f_law = fa ∧ (∀ (s : Shared) (v : Value), BindsTo s A.d_law ⟨[v], []⟩ [("script", v)]) := by
      refine' K78.all_mk KX G hmg ?a_Examination ?pg_Examination ?hd_Examination ?po_Examination ?sa_Examination ?mk_Examination ?kc_Examination ?n_Examination_left ?n_Examination_trails ?n_Examination_steps ?a_Budget ?pg_Budget ?hd_Budget ?po_Budget ?sa_Budget ?mk_Budget ?kc_Budget ?n_Budget_looks ?a_System ?pg_System ?hd_System ?po_System ?sa_System ?mk_System ?kc_System ?n_System_variables ?n_System_rows ?q1_System ?q2_System ?q3_System ?q4_System ?a_is_integer ?l_is_integer ?c_is_integer ?k_is_integer ?a_is_tuple_of_integers ?l_is_tuple_of_integers ?c_is_tuple_of_integers ?k_is_tuple_of_integers ?a_is_constraint ?l_is_constraint ?c_is_constraint ?k_is_constraint ?a_impossible ?l_impossible ?c_impossible ?k_impossible ?a_common_divisor ?l_common_divisor ?c_common_divisor ?k_common_divisor ?a_divided ?l_divided ?c_divided ?k_divided ?a_reduced_inequality ?l_reduced_inequality ?c_reduced_inequality ?k_reduced_inequality ?a_reduced_equation ?l_reduced_equation ?c_reduced_equation ?k_reduced_equation ?a_reduced_multiple ?l_reduced_multiple ?c_reduced_multiple ?k_reduced_multiple ?a_reduced_constraint ?l_reduced_constraint ?c_reduced_constraint ?k_reduced_constraint ?a_reduced_rows ?l_reduced_rows ?c_reduced_rows ?k_reduced_rows ?a_System___init__ ?i_System___init__ ?l_System___init__ ?c_System___init__ ?k_System___init__ ?a_System_is_impossible ?g_System_is_impossible ?t_System_is_impossible ?r_System_is_impossible ?l_System_is_impossible ?c_System_is_impossible ?k_System_is_impossible ?a_System_reduced ?i_System_reduced ?l_System_reduced ?c_System_reduced ?k_System_reduced ?a_closed ?l_closed ?c_closed ?k_closed ?a_made_by ?l_made_by ?c_made_by ?k_made_by ?a_check_left ?l_check_left ?c_check_left ?k_check_left ?a_check_numbers ?l_check_numbers ?c_check_numbers ?k_check_numbers ?a_left_behind ?l_left_behind ?c_left_behind ?k_left_behind ?a_remaining ?l_remaining ?c_remaining ?k_remaining ?a_refutes ?l_refutes ?c_refutes ?k_refutes ?a_lifted ?l_lifted ?c_lifted ?k_lifted ?a_Budget___init__ ?i_Budget___init__ ?l_Budget___init__ ?c_Budget___init__ ?k_Budget___init__ ?a_Budget_spend ?i_Budget_spend ?l_Budget_spend ?c_Budget_spend ?k_Budget_spend ?a_Examination___init__ ?i_Examination___init__ ?l_Examination___init__ ?c_Examination___init__ ?k_Examination___init__ ?a_Examination_take ?i_Examination_take ?l_Examination_take ?c_Examination_take ?k_Examination_take ?a_Examination_look ?i_Examination_look ?l_Examination_look ?c_Examination_look ?k_Examination_look ?a_examined ?l_examined ?c_examined ?k_examined ?a_examine ?l_examine ?c_examine ?k_examine ?a_law_cell ?l_law_cell ?c_law_cell ?k_law_cell ?a_law_draws ?l_law_draws ?c_law_draws ?k_law_draws ?a_law_value ?l_law_value ?c_law_value ?k_law_value ?a_law_holds ?l_law_holds ?c_law_holds ?k_law_holds ?a_law_all_hold ?l_law_all_hold ?c_law_all_hold ?k_law_all_hold ?a_law_point ?l_law_point ?c_law_point ?k_law_point ?a_law_constraint ?l_law_constraint ?c_law_constraint ?k_law_constraint ?a_law_rows ?l_law_rows ?c_law_rows ?k_law_rows ?a_law_impossible ?l_law_impossible ?c_law_impossible ?k_law_impossible ?a_law_refuted ?l_law_refuted ?c_law_refuted ?k_law_refuted ?a_law ?l_law ?c_law ?k_law ?z_isinstance ?z_bool ?z_int ?z_all ?z_len ?z_tuple ?z_min ?z_sum ?z_any ?z_abs ?z_enumerate ?z_range ?z_zip ?u_gcd ?m_MOST_EFFORT ?m_MOST_WEIGHT ?m_MOST_VARIABLES ?m_GREATEST
      (case a_Examination => k_is)
      (case pg_Examination => k_is)
      (case hd_Examination => k_is)
      (case po_Examination => k_is)
      (case sa_Examination => k_is)
      (case mk_Examination => k_is)
      (case kc_Examination => k_is)
      (case n_Examination_left => k_is)
      (case n_Examination_trails => k_is)
      (case n_Examination_steps => k_is)
      (case a_Budget => k_is)
      (case pg_Budget => k_is)
      (case hd_Budget => k_is)
      (case po_Budget => k_is)
      (case sa_Budget => k_is)
      (case mk_Budget => k_is)
      (case kc_Budget => k_is)
      (case n_Budget_looks => k_is)
      (case a_System => k_is)
      (case pg_System => k_is)
      (case hd_System => k_is)
      (case po_System => k_is)
      (case sa_System => k_is)
      (case mk_System => k_is)
      (case kc_System => k_is)
      (case n_System_variables => k_is)
      (case n_System_rows => k_is)
      (case q1_System => k_is)
      (case q2_System => k_is)
      (case q3_System => k_is)
      (case q4_System => k_is)
      (case a_is_integer => k_is)
      (case l_is_integer => k_is)
      (case c_is_integer => k_is)
      (case k_is_integer => k_is)
      (case a_is_tuple_of_integers => k_is)
      (case l_is_tuple_of_integers => k_is)
      (case c_is_tuple_of_integers => k_is)
      (case k_is_tuple_of_integers => k_is)
      (case a_is_constraint => k_is)
      (case l_is_constraint => k_is)
      (case c_is_constraint => k_is)
      (case k_is_constraint => k_is)
      (case a_impossible => k_is)
      (case l_impossible => k_is)
      (case c_impossible => k_is)
      (case k_impossible => k_is)
      (case a_common_divisor => k_is)
      (case l_common_divisor => k_is)
      (case c_common_divisor => k_is)
      (case k_common_divisor => k_is)
      (case a_divided => k_is)
      (case l_divided => k_is)
      (case c_divided => k_is)
      (case k_divided => k_is)
      (case a_reduced_inequality => k_is)
      (case l_reduced_inequality => k_is)
      (case c_reduced_inequality => k_is)
      (case k_reduced_inequality => k_is)
      (case a_reduced_equation => k_is)
      (case l_reduced_equation => k_is)
      (case c_reduced_equation => k_is)
      (case k_reduced_equation => k_is)
      (case a_reduced_multiple => k_is)
      (case l_reduced_multiple => k_is)
      (case c_reduced_multiple => k_is)
      (case k_reduced_multiple => k_is)
      (case a_reduced_constraint => k_is)
      (case l_reduced_constraint => k_is)
      (case c_reduced_constraint => k_is)
      (case k_reduced_constraint => k_is)
      (case a_reduced_rows => k_is)
      (case l_reduced_rows => k_is)
      (case c_reduced_rows => k_is)
      (case k_reduced_rows => k_is)
      (case a_System___init__ => k_is)
      (case i_System___init__ => k_is)
      (case l_System___init__ => k_is)
      (case c_System___init__ => k_is)
      (case k_System___init__ => k_is)
      (case a_System_is_impossible => k_is)
      (case g_System_is_impossible => k_is)
      (case t_System_is_impossible => k_is)
      (case r_System_is_impossible => k_is)
      (case l_System_is_impossible => k_is)
      (case c_System_is_impossible => k_is)
      (case k_System_is_impossible => k_is)
      (case a_System_reduced => k_is)
      (case i_System_reduced => k_is)
      (case l_System_reduced => k_is)
      (case c_System_reduced => k_is)
      (case k_System_reduced => k_is)
      (case a_closed => k_is)
      (case l_closed => k_is)
      (case c_closed => k_is)
      (case k_closed => k_is)
      (case a_made_by => k_is)
      (case l_made_by => k_is)
      (case c_made_by => k_is)
      (case k_made_by => k_is)
      (case a_check_left => k_is)
      (case l_check_left => k_is)
      (case c_check_left => k_is)
      (case k_check_left => k_is)
      (case a_check_numbers => k_is)
      (case l_check_numbers => k_is)
      (case c_check_numbers => k_is)
      (case k_check_numbers => k_is)
      (case a_left_behind => k_is)
      (case l_left_behind => k_is)
      (case c_left_behind => k_is)
      (case k_left_behind => k_is)
      (case a_remaining => k_is)
      (case l_remaining => k_is)
      (case c_remaining => k_is)
      (case k_remaining => k_is)
      (case a_refutes => k_is)
      (case l_refutes => k_is)
      (case c_refutes => k_is)
      (case k_refutes => k_is)
      (case a_lifted => k_is)
      (case l_lifted => k_is)
      (case c_lifted => k_is)
      (case k_lifted => k_is)
      (case a_Budget___init__ => k_is)
      (case i_Budget___init__ => k_is)
      (case l_Budget___init__ => k_is)
      (case c_Budget___init__ => k_is)
      (case k_Budget___init__ => k_is)
      (case a_Budget_spend => k_is)
      (case i_Budget_spend => k_is)
      (case l_Budget_spend => k_is)
      (case c_Budget_spend => k_is)
      (case k_Budget_spend => k_is)
      (case a_Examination___init__ => k_is)
      (case i_Examination___init__ => k_is)
      (case l_Examination___init__ => k_is)
      (case c_Examination___init__ => k_is)
      (case k_Examination___init__ => k_is)
      (case a_Examination_take => k_is)
      (case i_Examination_take => k_is)
      (case l_Examination_take => k_is)
      (case c_Examination_take => k_is)
      (case k_Examination_take => k_is)
      (case a_Examination_look => k_is)
      (case i_Examination_look => k_is)
      (case l_Examination_look => k_is)
      (case c_Examination_look => k_is)
      (case k_Examination_look => k_is)
      (case a_examined => k_is)
      (case l_examined => k_is)
      (case c_examined => k_is)
      (case k_examined => k_is)
      (case a_examine => k_is)
      (case l_examine => k_is)
      (case c_examine => k_is)
      (case k_examine => k_is)
      (case a_law_cell => k_is)
      (case l_law_cell => k_is)
      (case c_law_cell => k_is)
      (case k_law_cell => k_is)
      (case a_law_draws => k_is)
      (case l_law_draws => k_is)
      (case c_law_draws => k_is)
      (case k_law_draws => k_is)
      (case a_law_value => k_is)
      (case l_law_value => k_is)
      (case c_law_value => k_is)
      (case k_law_value => k_is)
      (case a_law_holds => k_is)
      (case l_law_holds => k_is)
      (case c_law_holds => k_is)
      (case k_law_holds => k_is)
      (case a_law_all_hold => k_is)
      (case l_law_all_hold => k_is)
      (case c_law_all_hold => k_is)
      (case k_law_all_hold => k_is)
      (case a_law_point => k_is)
      (case l_law_point => k_is)
      (case c_law_point => k_is)
      (case k_law_point => k_is)
      (case a_law_constraint => k_is)
      (case l_law_constraint => k_is)
      (case c_law_constraint => k_is)
      (case k_law_constraint => k_is)
      (case a_law_rows => k_is)
      (case l_law_rows => k_is)
      (case c_law_rows => k_is)
      (case k_law_rows => k_is)
      (case a_law_impossible => k_is)
      (case l_law_impossible => k_is)
      (case c_law_impossible => k_is)
      (case k_law_impossible => k_is)
      (case a_law_refuted => k_is)
      (case l_law_refuted => k_is)
      (case c_law_refuted => k_is)
      (case k_law_refuted => k_is)
      (case a_law => k_is)
      (case l_law => k_is)
      (case c_law => k_is)
      (case k_law => k_is)
      (case z_isinstance => k_is)
      (case z_bool => k_is)
      (case z_int => k_is)
      (case z_all => k_is)
      (case z_len => k_is)
      (case z_tuple => k_is)
      (case z_min => k_is)
      (case z_sum => k_is)
      (case z_any => k_is)
      (case z_abs => k_is)
      (case z_enumerate => k_is)
      (case z_range => k_is)
      (case z_zip => k_is)
      (case u_gcd => k_is)
      (case m_MOST_EFFORT => k_is)
      (case m_MOST_WEIGHT => k_is)
      (case m_MOST_VARIABLES => k_is)
      (case m_GREATEST => k_is)
    subst e
    exact ⟨A.d_law, hb, fun base _ _ => K78.ok_law T⟩
