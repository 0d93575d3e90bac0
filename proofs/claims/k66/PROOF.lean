import PyProof.Rows.All
import Wide.All
import OpenK.AllK
import Wide.FinOn
import HandS.ForMost
import HandS.Zip
import HandS.Wide
import HandS.TupAny
import HandS.IsInst
import HandS.EndBits
import HandS.Walk
import HandS.More
import HandS.RaiseMore
import HandS.SetIn
import HandS.TupMul
import HandS.Gcd
import PySem.Challenge.RW_loopworks_k66_failures_of_a_constraint
set_option Elab.async false
set_option linter.all false
set_option maxRecDepth 100000
set_option maxHeartbeats 4000000
namespace Bs
open PySem L2

/-! ### loops as one word -/
def Loop (J : It) (g : TG) (tb : TS) (D : Ends) (σ : St) (H1 : Hp) : Prop := ∃ W : Nat → Nat → St → Hp → Prop, (∃ m, W 0 m σ H1) ∧ ∀ i m σ H, W i m σ H →
  (J.stop i H ∧ D.nx σ H) ∨ (J.go i H ∧ ∃ N : St → Hp → Prop, (∀ σ' H', N σ' H' → ∃ m', m' < m ∧ W (i + 1) m' σ' H') ∧ ∀ x H', J.yld i H x H' → g x σ H' fun σ2 H2 => tb { D with nx := N, ct := N, bk := D.nx } σ2 H2)
theorem for_eq (wi : TI) (g : TG) (tb : TS) (D : Ends) (σ : St) (H : Hp) : tFor wi g tb D σ H = wi σ H fun J H1 => Loop J g tb D σ H1 := rfl
def LoopC (J : It) (g : TG) (tt : TT) (te : TE) (vs : List Nat) (σ : St) (H1 : Hp) (D : Addr) (Qd : Hp → Prop) : Prop := ∃ W : Nat → Nat → Hp → Prop, (∃ m, W 0 m (upd H1 D (.lst []))) ∧ ∀ i m H, W i m H →
  (J.stop i H ∧ Qd H) ∨ (J.go i H ∧ ∃ Nx : Hp → Prop, (∀ H', Nx H' → ∃ m', m' < m ∧ W (i + 1) m' H') ∧ ∀ x H', J.yld i H x H' → g x (wipe σ vs) H' fun σ2 H2 => wipe σ2 vs = wipe σ vs ∧ tt σ2 H2 fun b H3 =>
    if b = true then te σ2 H3 fun y H4 => ∃ acc, H4 D = some (.lst acc) ∧ acc.length < sizeLine ∧ Nx (upd H4 D (.lst (acc ++ [y]))) else Nx H3)
theorem lc_eq (wi : TI) (g : TG) (tt : TT) (te : TE) (vs : List Nat) (σ : St) (H : Hp) (Q : VK) : tLc wi g tt te vs σ H Q = wi σ H fun J H1 => ∀ D, H1 D = none → LoopC J g tt te vs σ H1 D (fun H => Q (.ref D) H) := rfl
def LoopW (c : TT) (tb : TS) (D : Ends) (σ : St) (H : Hp) : Prop := tWhile c tb D σ H
theorem while_eq (c : TT) (tb : TS) (D : Ends) (σ : St) (H : Hp) : tWhile c tb D σ H = LoopW c tb D σ H := rfl

theorem test_eq (t : TE) (σ : St) (H : Hp) (Q : Bool → Hp → Prop) : tTest t σ H Q = t σ H fun x H' => ∃ k, x = .bl k ∧ Q k H' := rfl
theorem ex_bl {b : Bool} {Q : Bool → Prop} : (∃ k, V.bl b = .bl k ∧ Q k) = Q b := propext ⟨fun ⟨k, e, q⟩ => by cases e; exact q, fun q => ⟨b, rfl, q⟩⟩
theorem ex_int {i : Int} {Q : Int → Prop} : (∃ k, V.int i = .int k ∧ Q k) = Q i := propext ⟨fun ⟨k, e, q⟩ => by cases e; exact q, fun q => ⟨i, rfl, q⟩⟩

theorem cxK {CX : CXT} {P : Program} {w : World} {K : PySem.W.Frag} {mg : Str → Option Value} {base : Heap} {N : List Str} {qual : Str} {scope : Scope} {f : Addr} {cd : Value} {A : Around} {outer : List Env} {s : Shared} {H : Hp} {E : XK} : (cxOf CX P w K mg base N qual scope f cd A outer s H E).K = K := rfl
/-! ### sizes -/
def Sz (n : Nat) (x : Int) : Prop := x.natAbs < 2 ^ n
theorem Sz.mono {a b : Nat} {x : Int} (h : Sz a x) (l : a ≤ b) : Sz b x := Nat.lt_of_lt_of_le h (Nat.pow_le_pow_right (by decide) l)
theorem Sz.add {a : Nat} {x y : Int} (h : Sz a x) (k : Sz a y) : Sz (a + 1) (x + y) := by
  unfold Sz at *
  rw [Nat.pow_succ]
  omega
theorem Sz.sub {a : Nat} {x y : Int} (h : Sz a x) (k : Sz a y) : Sz (a + 1) (x - y) := by
  unfold Sz at *
  rw [Nat.pow_succ]
  omega
theorem Sz.mul {a b : Nat} {x y : Int} (h : Sz a x) (k : Sz b y) : Sz (a + b) (x * y) := wide_lt h k
theorem Sz.zero (a : Nat) : Sz a 0 := Nat.pow_pos (by decide)
theorem Sz.bits {n : Int} {b : Nat} (h : Builtin.Int.intBits n ≤ b) : Sz (b + 1) n := by
  unfold Sz
  unfold Builtin.Int.intBits at h
  by_cases e : n.natAbs = 0
  · rw [e]; exact Nat.pow_pos (by decide)
  · have l : n.natAbs < 2 ^ (n.natAbs.log2 + 1) := Nat.lt_log2_self
    refine Nat.lt_of_lt_of_le l (Nat.pow_le_pow_right (by decide) ?_)
    have en : (n == 0) = false := by
      rw [beq_eq_false_iff_ne]
      intro z
      subst z
      exact e rfl
    rw [en] at h
    have h' : n.natAbs.log2 + 1 ≤ b := h
    omega
def CMulX (i j : Int) : Prop := ∃ a b : Nat, Sz a i ∧ Sz b j ∧ a + b ≤ 100000000
theorem log2_le_of {n a : Nat} (h : n < 2 ^ a) : n.log2 ≤ a := by
  by_cases e : n = 0
  · subst e; exact Nat.zero_le _
  · exact Nat.le_of_lt ((Nat.log2_lt e).mpr h)
theorem CMulX.ok {i j : Int} (h : CMulX i j) : IntMulOk i j := by
  obtain ⟨a, b, ha, hb, hab⟩ := h
  have q : ∀ x : Int, Builtin.Int.intBits x ≤ x.natAbs.log2 + 1 := fun x => by
    unfold Builtin.Int.intBits
    split <;> omega
  have h1 := q i
  have h2 := q j
  have h3 := log2_le_of ha
  have h4 := log2_le_of hb
  have e : bitsLine = 134217728 := by decide
  unfold IntMulOk
  intro z
  rw [Bool.and_eq_true] at z
  have z2 := z.2
  unfold Builtin.Int.intTooBig at z2
  have z3 := of_decide_eq_true z2
  rw [e] at z3
  omega
theorem op_mulX {X : Cx} : OpR X (binaryOp .Mult) (rI CMulX fun i j => .int (i * j)) := opI fun _ _ _ _ _ _ _ hc q => PyProof.Rows.mul_int q hc.ok
/-! ### loops and comprehensions over a walk -/
theorem loop_it {J : It} {n : Nat} {G : Hp → Prop} {Y : Nat → Hp → V → Hp → Prop} (w : Walk J n G Y) {g : TG} {tb : TS} {D : Ends} {σ : St} {H : Hp} (Pv : Nat → St → Hp → Prop) (h0 : Pv 0 σ H) (hG : ∀ i σ H, i ≤ n → Pv i σ H → G H)
    (hs : ∀ i x σ H H', i < n → Pv i σ H → Y i H x H' → g x σ H' fun σ2 H2 => tb { D with nx := Pv (i + 1), ct := Pv (i + 1), bk := D.nx } σ2 H2) (hd : ∀ σ H, Pv n σ H → D.nx σ H) : Loop J g tb D σ H := for_it w Pv h0 hG hs hd
theorem loopc_it {J : It} {n : Nat} {G : Hp → Prop} {Y : Nat → Hp → V → Hp → Prop} (w : Walk J n G Y) {g : TG} {tt : TT} {te : TE} {vs : List Nat} {σ : St} {H1 : Hp} {D : Addr} {Qd : Hp → Prop} (Pv : Nat → Hp → Prop) (h0 : Pv 0 (upd H1 D (.lst []))) (hG : ∀ i H, i ≤ n → Pv i H → G H)
    (hs : ∀ i x H H', i < n → Pv i H → Y i H x H' → g x (wipe σ vs) H' fun σ2 H2 => wipe σ2 vs = wipe σ vs ∧ tt σ2 H2 fun b H3 =>
      if b = true then te σ2 H3 fun y H4 => ∃ acc, H4 D = some (.lst acc) ∧ acc.length < sizeLine ∧ Pv (i + 1) (upd H4 D (.lst (acc ++ [y]))) else Pv (i + 1) H3) (hd : ∀ H, Pv n H → Qd H) : LoopC J g tt te vs σ H1 D Qd := lc_it w Pv h0 hG hs hd
theorem same_upd {H : Hp} {p : Addr} {o : HO} (h : H p = none) : Same H (upd H p o) := fun b x e => by
  rw [upd_ne (ne_of_none e h)]
  exact e
theorem same_upd2 {H H' : Hp} {p : Addr} {o : HO} (e : Same H H') (h : H p = none) : Same H (upd H' p o) := fun b x q => by
  rw [upd_ne (ne_of_none q h)]
  exact e _ _ q
/-- [e for ..], without a test, whose element is told by the turn -/
theorem lc_pure {J : It} {n : Nat} {G : Hp → Prop} {Y : Nat → Hp → V → Hp → Prop} (w : Walk J n G Y) {g : TG} {te : TE} {vs : List Nat} {σ : St} {H1 : Hp} {D : Addr} {Qd : Hp → Prop} (f : Nat → V) (hD : H1 D = none) (hn : n ≤ 1000)
    (hG : ∀ H', Same H1 H' → G H') (hY : ∀ i H x H', Y i H x H' → Same H H')
    (hs : ∀ i x H H' (R : VK), i < n → Same H1 H' → Y i H x H' → (∀ H4, Same H' H4 → R (f i) H4) → g x (wipe σ vs) H' fun σ2 H2 => wipe σ2 vs = wipe σ vs ∧ te σ2 H2 R)
    (hd : ∀ H', Same H1 H' → H' D = some (.lst ((List.range n).map f)) → Qd H') : LoopC J g tYes te vs σ H1 D Qd := by
  refine loopc_it w (fun i H => Same H1 H ∧ H D = some (.lst ((List.range i).map f))) ⟨same_upd hD, upd_same⟩ (fun i H _ p => hG H p.1) (fun i x H H' hi p y => ?_) (fun H p => hd H p.1 p.2)
  have hYs := hY _ _ _ _ y
  have q := hs i x H H' (fun y H4 => ∃ acc, H4 D = some (.lst acc) ∧ acc.length < sizeLine ∧ (Same H1 (upd H4 D (.lst (acc ++ [y]))) ∧ upd H4 D (.lst (acc ++ [y])) D = some (.lst ((List.range (i + 1)).map f)))) hi (p.1.trans hYs) y (fun H4 s4 => ?_)
  · exact q
  · refine ⟨_, s4 _ _ (hYs _ _ p.2), ?_, same_upd2 (p.1.trans (hYs.trans s4)) hD, ?_⟩
    · rw [List.length_map, List.length_range]
      exact small1000 (by omega)
    · rw [upd_same, List.range_succ, List.map_append]
      rfl
theorem range_getD {α : Type} (d : α) : ∀ ys : List α, (List.range ys.length).map (fun i => ys[i]?.getD d) = ys := fun ys => by
  refine List.ext_getElem? fun i => ?_
  rw [List.getElem?_map]
  by_cases h : i < ys.length
  · rw [List.getElem?_range h, List.getElem?_eq_getElem h]
    simp [h]
  · rw [List.getElem?_eq_none (by rw [List.length_range]; omega), List.getElem?_eq_none (by omega)]
    rfl
/-- the same by the list that comes out -/
theorem lc_ys {J : It} {n : Nat} {G : Hp → Prop} {Y : Nat → Hp → V → Hp → Prop} (w : Walk J n G Y) {g : TG} {te : TE} {vs : List Nat} {σ : St} {H1 : Hp} {D : Addr} {Qd : Hp → Prop} (ys : List V) (hD : H1 D = none) (hn : n ≤ 1000) (hl : ys.length = n)
    (hG : ∀ H', Same H1 H' → G H') (hY : ∀ i H x H', Y i H x H' → Same H H')
    (hs : ∀ i x y H H' (R : VK), i < n → ys[i]? = some y → Same H1 H' → Y i H x H' → (∀ H4, Same H' H4 → R y H4) → g x (wipe σ vs) H' fun σ2 H2 => wipe σ2 vs = wipe σ vs ∧ te σ2 H2 R)
    (hd : ∀ H', Same H1 H' → H' D = some (.lst ys) → Qd H') : LoopC J g tYes te vs σ H1 D Qd := by
  refine lc_pure w (fun i => ys[i]?.getD .non) hD hn hG hY (fun i x H H' R hi s1 y k => ?_) (fun H' s' e => hd H' s' ?_)
  · have hy : ys[i]? = some (ys[i]?.getD .non) := by
      rw [List.getElem?_eq_getElem (by omega)]
      rfl
    exact hs i x _ H H' R hi hy s1 y k
  · rw [← hl, range_getD] at e
    exact e
theorem walk_zipT {K : PySem.W.Frag} {a b : Addr} {xs ys : List V} {n : Nat} (hn : n = min xs.length ys.length) : Walk (RZ.ItzT K a b) n (fun H => SqT K H a xs ∧ SqT K H b ys) (YPair (fun i => xs[i]?) (fun i => ys[i]?)) := by
  subst hn
  refine ⟨fun i _ hi q => ?_, fun _ q => ⟨xs, ys, q.1, q.2, by omega⟩, fun i H v H' _ q y => ?_⟩
  · have h1 : i < xs.length := by omega
    have h2 : i < ys.length := by omega
    exact ⟨xs, ys, xs[i], ys[i], q.1, q.2, by simp [h1], by simp [h2]⟩
  · obtain ⟨T, x, z, h1, h2, h3, h4, h5⟩ := y
    exact ⟨T, x, z, h1, h2, h3, h4 xs q.1, h5 ys q.2⟩
theorem ypair_same {xs ys : Nat → Option V} : ∀ (i : Nat) (H : Hp) (x : V) (H' : Hp), YPair xs ys i H x H' → Same H H' := fun i H x H' ⟨T, _, _, _, n, e, _⟩ => by
  subst e
  exact same_upd n
theorem yat_same {xs : List V} : ∀ (i : Nat) (H : Hp) (x : V) (H' : Hp), YAt xs i H x H' → Same H H' := fun i H x H' ⟨e, _⟩ => by
  subst e
  exact Same.refl _
theorem yfn_same {f : Nat → V} : ∀ (i : Nat) (H : Hp) (x : V) (H' : Hp), YFn f i H x H' → Same H H' := fun i H x H' ⟨e, _⟩ => by
  subst e
  exact Same.refl _
theorem sameT {K : PySem.W.Frag} {H H' : Hp} {a : Addr} {xs : List V} (e : Same H H') (h : SqT K H a xs) : SqT K H' a xs := by
  rcases h with (h | ⟨o, h⟩) | h
  · exact .inl (.inl (e _ _ h))
  · exact .inl (.inr ⟨o, e _ _ h⟩)
  · exact .inr h
theorem scal_ii (a b : Int) : scal (.int a) (.int b) = true := rfl
theorem scal_ss (a b : Str) : scal (.str a) (.str b) = true := rfl
theorem scal_bb (a b : Bool) : scal (.bl a) (.bl b) = true := rfl
theorem dec_ii (a b : Int) : decide (V.int a = V.int b) = decide (a = b) := decide_eq_decide.mpr (by rw [V.int.injEq])
theorem dec_ss (a b : Str) : decide (V.str a = V.str b) = decide (a = b) := decide_eq_decide.mpr (by rw [V.str.injEq])
theorem dec_bb (a b : Bool) : decide (V.bl a = V.bl b) = decide (a = b) := decide_eq_decide.mpr (by rw [V.bl.injEq])
theorem walk_range0 {n : Nat} : Walk (Itr 0 n) n (fun _ => True) (fun i H x H' => H' = H ∧ x = V.int ((i : Nat) : Int)) :=
  ⟨fun _ _ hi _ => hi, fun _ _ => Nat.le_refl _, fun _ _ _ _ _ _ y => ⟨y.1, by rw [y.2, Int.zero_add]⟩⟩
theorem yat_at {xs : List V} {i : Nat} {H H' : Hp} {x : V} (y : YAt xs i H x H') : H' = H ∧ xs[i]? = some x := y
theorem isi {K : PySem.W.Frag} {H : Hp} {x : V} {a b : String} {r : Bool} {Q : VK} (ty : TyX K H x (.type a)) (hk : kitB a b = some r) (q : Q (.bl r) H) : rIsi K [x, .ty b] H Q :=
  ⟨x, .ty b, .type a, .type b, r, rfl, .ty b, ty, kit_ty hk, q⟩
theorem ty_int {K : PySem.W.Frag} {H : Hp} {i : Int} : TyX K H (.int i) (.type "int") := .base (.int i)
theorem ty_bl {K : PySem.W.Frag} {H : Hp} {i : Bool} : TyX K H (.bl i) (.type "bool") := .base (.bl i)
theorem ty_str {K : PySem.W.Frag} {H : Hp} {i : Str} : TyX K H (.str i) (.type "str") := .base (.str i)
theorem ty_tup {K : PySem.W.Frag} {H : Hp} {a : Addr} {xs : List V} (h : SqT K H a xs) : TyX K H (.ref a) (.type "tuple") := by
  rcases h with (h | ⟨o, h⟩) | ⟨o, _, _, h, c, _⟩
  · exact .base (.tup h)
  · exact .fTuple h
  · exact .kTuple h c
theorem ty_lst {K : PySem.W.Frag} {H : Hp} {a : Addr} {xs : List V} (h : SqL K H a xs) : TyX K H (.ref a) (.type "list") := by
  rcases h with (h | ⟨o, h⟩) | ⟨o, _, _, h, c, _⟩
  · exact .base (.lst h)
  · exact .base (.frz h)
  · exact .kList h c
theorem sqT_upd {K : PySem.W.Frag} {H : Hp} {p b : Addr} {o : HO} {xs ys : List V} (hp : H p = some (.lst xs)) (h : SqT K H b ys) : SqT K (upd H p o) b ys := by
  rcases h with (h | ⟨o, h⟩) | h
  · exact .inl (.inl (by rw [upd_ne (ne_of h hp (by intro z; cases z))]; exact h))
  · exact .inl (.inr ⟨o, by rw [upd_ne (ne_of h hp (by intro z; cases z))]; exact h⟩)
  · exact .inr h
end Bs
namespace Bs
open PySem L2 TL

/-! ### texts -/
theorem call_str_any {X : Cx} : CallR X (.type "str") (fun xs H Q => (∃ i, xs = [.int i] ∧ i.natAbs.log2 < 1920 ∧ Q (.str (toString i)) H) ∨ ∃ a, xs = [.str a] ∧ Q (.str a) H) := by
  intro pins s σ H xs us Q I r h
  rcases h with h | h
  · exact call_str_int pins s σ H xs us Q I r h
  · exact SkE.call_str_str pins s σ H xs us Q I r h
theorem call_intI {X : Cx} : CallR X (.type "int") (fun xs H Q => ∃ i, xs = [.int i] ∧ Q (.int i) H) := by
  intro pins s σ H xs us Q I r h
  exact call_int1 pins s σ H xs us Q I r (.inl h)
/-- z repeated n times -/
def rep (z : Str) (n : Nat) : Str := ⟨((List.replicate n (tl z)).flatten).toArray⟩
theorem tl_rep (z : Str) (n : Nat) : tl (rep z n) = (List.replicate n (tl z)).flatten := rfl
theorem rep_len (z : Str) (n : Nat) : (rep z n).length = z.length * n := by
  rw [len_tl, len_tl, tl_rep, List.length_flatten, List.map_replicate]
  generalize (tl z).length = k
  induction n with
  | zero => rfl
  | succ n ih => rw [List.replicate_succ, List.sum_cons, ih, Nat.mul_succ]; omega
theorem foldl_app (l : List (Array Nat)) : ∀ a : Array Nat, (l.foldl (· ++ ·) a).toList = a.toList ++ (l.map Array.toList).flatten := by
  induction l with
  | nil => intro a; simp
  | cons x r ih => intro a; simp [ih, List.append_assoc]
theorem mul_rep (z : Str) (n : Nat) : Txt.mul z (n : Int) = rep z n := by
  refine ext_tl ?_
  rw [tl_rep]
  unfold Txt.mul
  by_cases h1 : ((n : Nat) : Int) < 1
  · have e : n = 0 := by omega
    subst e
    rw [if_pos h1]
    rfl
  · rw [if_neg h1]
    split
    · rename_i h2
      rw [Bool.or_eq_true, beq_iff_eq, beq_iff_eq] at h2
      rcases h2 with h2 | h2
      · have e : n = 1 := by omega
        subst e
        simp
      · have e : tl z = [] := (len0_tl z).mp h2
        rw [e]
        simp
    · show (List.foldl (· ++ ·) #[] (List.replicate ((n : Int)).toNat z.cps)).toList = _
      rw [foldl_app, Int.toNat_natCast, List.map_replicate]
      rfl
def rRepS : R2 := fun x y H Q => ∃ (z : Str) (n : Nat), x = .str z ∧ y = .int (n : Int) ∧ z.length ≤ 1000 ∧ n ≤ 1000 ∧ Q (.str (rep z n)) H
theorem op_repS {X : Cx} : OpR X (binaryOp .Mult) rRepS := by
  intro pins s σ H x y v u Q I rx ry h
  obtain ⟨z, n, rfl, rfl, hz, hn, q⟩ := h
  obtain ⟨t, rfl⟩ := rx
  obtain ⟨t', rfl⟩ := ry
  refine SB.mul (n := (n : Int)) ⟨?_, fun h1 _ => ?_, fun h1 _ => ?_⟩ fun t1 k => ⟨.str (rep z n), H, I.tok k, ⟨t1, by rw [mul_rep]⟩, q⟩
  · rw [Bool.or_eq_false_iff]
    constructor <;> rw [decide_eq_false_iff_not] <;> omega
  · have hn1 : 1 ≤ (n : Int) := by omega
    have h2 : (1000 : Int) ≤ (2 ^ 63 - 1) / (n : Int) := by
      rw [Int.le_ediv_iff_mul_le (by omega)]
      omega
    omega
  · show decide (z.length * ((n : Int)).toNat > sizeLine) = false
    have hm : z.length * n ≤ 1000 * 1000 := Nat.mul_le_mul hz hn
    rw [Int.toNat_natCast]
    exact decide_eq_false (by have : (1000 * 1000 : Nat) < sizeLine := by decide
                              omega)
theorem len_app (x y : Str) : (x ++ y).length = x.length + y.length := Str.length_append x y
/-- the texts of a list, one behind the other -/
def flat (ps : List Str) : Str := Str.join Str.empty ps
theorem tl_flat (ps : List Str) : tl (flat ps) = (ps.map tl).flatten := by
  unfold flat
  rw [tl_join]
  show joinL [] (ps.map tl) = _
  generalize ps.map tl = l
  induction l with
  | nil => rfl
  | cons x r ih =>
    cases r with
    | nil => simp [joinL]
    | cons y r => rw [joinL, ih]; simp
theorem flat_snoc (ps : List Str) (x : Str) : flat (ps ++ [x]) = flat ps ++ x := by
  refine ext_tl ?_
  rw [tl_append, tl_flat, tl_flat]
  simp
theorem flat_len (ps : List Str) : (ps.map (·.length)).sum = (flat ps).length := by
  rw [len_tl, tl_flat, List.length_flatten, List.map_map]
  congr 1
theorem join_flat (e : Str) (h : tl e = []) (ps : List Str) : Txt.join e ps = flat ps := by
  rw [join_eq]
  refine ext_tl ?_
  rw [tl_join, tl_flat, h]
  generalize ps.map tl = l
  induction l with
  | nil => rfl
  | cons x r ih =>
    cases r with
    | nil => simp [joinL]
    | cons y r => rw [joinL, ih]; simp

theorem cut_take (z : Str) (n : Nat) : tl (cutS z none (some (n : Int))) = (tl z).take n := by
  show ((tl z).drop (HT.sIx z.length 0 none)).take (HT.sIx z.length z.length (some (n : Int)) - HT.sIx z.length 0 none) = _
  rw [HT.sIx_none, HT.sIx_nat, List.drop_zero, Nat.sub_zero, len_tl]
  by_cases h : n ≤ (tl z).length
  · rw [Nat.min_eq_left h]
  · rw [Nat.min_eq_right (by omega), List.take_of_length_le (Nat.le_refl _), List.take_of_length_le (by omega)]
theorem cut_drop (z : Str) (n : Nat) : tl (cutS z (some (n : Int)) none) = (tl z).drop n := by
  show ((tl z).drop (HT.sIx z.length 0 (some (n : Int)))).take (HT.sIx z.length z.length none - HT.sIx z.length 0 (some (n : Int))) = _
  rw [HT.sIx_none, HT.sIx_nat, len_tl]
  by_cases h : n ≤ (tl z).length
  · rw [Nat.min_eq_left h, List.take_of_length_le (by rw [List.length_drop]; omega)]
  · rw [Nat.min_eq_right (by omega), Nat.sub_self, List.take_zero, List.drop_eq_nil_of_le (by omega)]
theorem tl1 (c : Nat) : tl ⟨#[c]⟩ = [c] := rfl
theorem sum_ones {α : Type} : ∀ l : List α, (l.map fun _ => 1).sum = l.length
  | [] => rfl
  | x :: l => by
    rw [List.map_cons, List.sum_cons, sum_ones l, List.length_cons]
    omega
theorem sgn_inj {a b : Nat} (h : (⟨#[a]⟩ : Str) = ⟨#[b]⟩) : a = b := by
  have e := congrArg tl h
  rw [tl1, tl1] at e
  exact List.head_eq_of_cons_eq e
theorem sgn_eq (a b : Nat) : ((⟨#[a]⟩ : Str) = ⟨#[b]⟩) = (a = b) := propext ⟨sgn_inj, fun h => by rw [h]⟩
/-! ### a while, by a word with its measure -/
def Turn (W : Nat → St → Hp → Prop) (m : Nat) (tb : TS) (D : Ends) (σ : St) (H : Hp) : Prop := ∃ N : St → Hp → Prop, (∀ σ' H', N σ' H' → ∃ m', m' < m ∧ W m' σ' H') ∧ tb { D with nx := N, ct := N, bk := D.nx } σ H
theorem turn_of {W : Nat → St → Hp → Prop} {m : Nat} {tb : TS} {D : Ends} {σ : St} {H : Hp} (h : tb { D with nx := fun σ' H' => ∃ m', m' < m ∧ W m' σ' H', ct := fun σ' H' => ∃ m', m' < m ∧ W m' σ' H', bk := D.nx } σ H) : Turn W m tb D σ H := ⟨_, fun _ _ h => h, h⟩
theorem loopw {c : TT} {tb : TS} {D : Ends} {σ : St} {H : Hp} (W : Nat → St → Hp → Prop) (m : Nat) (h0 : W m σ H) (hs : ∀ m σ H, W m σ H → c σ H fun b H1 => if b = true then Turn W m tb D σ H1 else D.nx σ H1) : LoopW c tb D σ H := ⟨W, ⟨m, h0⟩, hs⟩
theorem cut_mid (z : Str) (i k : Nat) : tl (cutS z (some (i : Int)) (some ((i : Int) + (k : Int)))) = ((tl z).drop i).take k := by
  have e : (i : Int) + (k : Int) = ((i + k : Nat) : Int) := by omega
  rw [e]
  show ((tl z).drop (HT.sIx z.length 0 (some (i : Int)))).take (HT.sIx z.length z.length (some ((i + k : Nat) : Int)) - HT.sIx z.length 0 (some (i : Int))) = _
  rw [HT.sIx_nat, HT.sIx_nat, len_tl]
  by_cases h : i ≤ (tl z).length
  · rw [Nat.min_eq_left h]
    by_cases h2 : i + k ≤ (tl z).length
    · rw [Nat.min_eq_left h2, Nat.add_sub_cancel_left]
    · rw [Nat.min_eq_right (by omega)]
      rw [List.take_of_length_le (by rw [List.length_drop]; omega), List.take_of_length_le (by rw [List.length_drop]; omega)]
  · rw [Nat.min_eq_right (by omega), Nat.min_eq_right (by omega), Nat.sub_self, List.take_zero, List.drop_eq_nil_of_le (by omega), List.take_nil]
/-! ### a list's item at an open place -/
theorem atI_in {α : Type} {xs : List α} {i : Int} (h0 : 0 ≤ i) (h1 : i < xs.length) : ∃ x, atI xs i = some x ∧ x ∈ xs := by
  obtain ⟨n, rfl⟩ : ∃ n : Nat, i = (n : Int) := ⟨i.toNat, by omega⟩
  have hn : n < xs.length := by omega
  exact ⟨xs[n], atI_nat (List.getElem?_eq_getElem hn), List.getElem_mem hn⟩

/-! ### v in a list of texts -/
theorem inV_str (v : Str) : ∀ l : List Str, inV (.str v) (l.map V.str) = decide (v ∈ l)
  | [] => rfl
  | x :: l => by
    show (eqV (.str x) (.str v) || inV (.str v) (l.map V.str)) = _
    rw [inV_str v l]
    show (decide (x = v) || _) = _
    rw [← Bool.decide_or]
    refine decide_eq_decide.mpr ?_
    rw [List.mem_cons]
    constructor
    · rintro (h | h)
      · exact .inl h.symm
      · exact .inr h
    · rintro (h | h)
      · exact .inl h.symm
      · exact .inr h
theorem flat_strs : ∀ zs : List Str, (zs.map V.str).all flatV = true
  | [] => rfl
  | _ :: zs => flat_strs zs
theorem rin {K : PySem.W.Frag} {H : Hp} {p : Addr} (zs : List Str) {v : Str} {Q : VK} (h : SqL K H p (zs.map V.str) ∨ SqT K H p (zs.map V.str)) (q : Q (.bl (decide (v ∈ zs))) H) : rIn K false (.str v) (.ref p) H Q :=
  ⟨p, zs.map V.str, rfl, h, rfl, flat_strs zs, by rw [inV_str]; exact q⟩
theorem rnin {K : PySem.W.Frag} {H : Hp} {p : Addr} (zs : List Str) {v : Str} {Q : VK} (h : SqL K H p (zs.map V.str) ∨ SqT K H p (zs.map V.str)) (q : Q (.bl (!decide (v ∈ zs))) H) : rIn K true (.str v) (.ref p) H Q :=
  ⟨p, zs.map V.str, rfl, h, rfl, flat_strs zs, by rw [inV_str]; exact q⟩
/-! ### the law's stream of numbers: a list of two lists -/
structure Stm (H : Hp) (st d p : Addr) : Prop where
  at_ : H st = some (.lst [.ref d, .ref p])
  dg : ∃ ds : List Int, H d = some (.lst (ds.map V.int)) ∧ ds ≠ []
  pl : ∃ i : Int, H p = some (.lst [.int i])
  n1 : st ≠ p
  n2 : d ≠ p
/-- all but what stands at p is as it was -/
structure Stp (p : Addr) (H H' : Hp) : Prop where
  keep : ∀ b o, b ≠ p → H b = some o → H' b = some o
  pl : ∃ i : Int, H' p = some (.lst [.int i])
theorem Stp.trans {p : Addr} {H H1 H2 : Hp} (a : Stp p H H1) (b : Stp p H1 H2) : Stp p H H2 := ⟨fun c o n e => b.keep c o n (a.keep c o n e), b.pl⟩
theorem Stm.step {H H' : Hp} {st d p : Addr} (x : Stm H st d p) (e : Stp p H H') : Stm H' st d p :=
  ⟨e.keep _ _ x.n1 x.at_, let ⟨ds, h, n⟩ := x.dg; ⟨ds, e.keep _ _ x.n2 h, n⟩, e.pl, x.n1, x.n2⟩
theorem Stm.refl {H : Hp} {st d p : Addr} (x : Stm H st d p) : Stp p H H := ⟨fun _ _ _ e => e, x.pl⟩
theorem Stm.same {H H' : Hp} {st d p : Addr} (x : Stm H st d p) (e : Same H H') : Stp p H H' := ⟨fun b o _ h => e b o h, let ⟨i, h⟩ := x.pl; ⟨i, e _ _ h⟩⟩
theorem Stp.same {p : Addr} {H H1 H2 : Hp} (a : Stp p H H1) (e : Same H1 H2) : Stp p H H2 := ⟨fun b o n h => e _ _ (a.keep b o n h), let ⟨i, h⟩ := a.pl; ⟨i, e _ _ h⟩⟩
theorem Stp.tup {p : Addr} {H H' : Hp} {b : Addr} {xs : List V} (a : Stp p H H') {i : Int} (hp : H p = some (.lst [.int i])) (h : H b = some (.tup xs)) : H' b = some (.tup xs) :=
  a.keep b _ (ne_of h hp (by intro z; cases z)) h
theorem Stp.sqT {K : PySem.W.Frag} {p : Addr} {H H' : Hp} {b : Addr} {xs : List V} (a : Stp p H H') {i : Int} (hp : H p = some (.lst [.int i])) (h : SqT K H b xs) : SqT K H' b xs := by
  rcases h with (h | ⟨o, h⟩) | h
  · exact .inl (.inl (a.tup hp h))
  · exact .inl (.inr ⟨o, a.keep _ _ (ne_of h hp (by intro z; cases z)) h⟩)
  · exact .inr h
theorem Stp.free {p : Addr} {H H' : Hp} (a : Stp p H H') {b : Addr} (h : H' b = none) (n : b ≠ p) : H b = none := by
  cases e : H b with
  | none => rfl
  | some o =>
    have h2 := a.keep _ _ n e
    rw [h] at h2
    cases h2
theorem Stp.ne {p : Addr} {H H' : Hp} (a : Stp p H H') {b : Addr} (h : H' b = none) : b ≠ p := by
  obtain ⟨i, e⟩ := a.pl
  exact (ne_of_none e h).symm
/-- what is put at a new place behind a step -/
theorem Stp.upd {p : Addr} {H H' : Hp} (a : Stp p H H') {b : Addr} {o : HO} (h : H b = none) (n : b ≠ p) : Stp p H (upd H' b o) :=
  ⟨fun c u nc e => by rw [upd_ne (ne_of_none e h)]; exact a.keep _ _ nc e, let ⟨i, e⟩ := a.pl; ⟨i, by rw [upd_ne n.symm]; exact e⟩⟩
/-- p was free before: then nothing that stood is changed -/
theorem Stp.fresh {p : Addr} {H0 H H' : Hp} (a : Stp p H H') (s : Same H0 H) (h : H0 p = none) : Same H0 H' := fun b o e => a.keep b o (ne_of_none e h) (s b o e)
end Bs
namespace Bs
open PySem L2 TL PySem.Spec PyProof.Rows

/-! ### tuple * int, also 0 and 1 times -/
theorem tuple_mul0 (l : Addr) (items : Array Value) (n : Nat) (dd : Option Addr) (sl : Array (Option Value)) (u : Tok) (c1 : (items.isEmpty || (0 : Int) == 1) = false) :
    Meets (Builtin.«tuple.__mul__» ⟨[.ref l, .int 0 u], []⟩) (fun _ R s => s.heap.get? l = some { cls := .type "tuple", dict := dd, data := .seq items n, slots := sl } ∧
      R (.ok (.ret (Value.ref s.heap.objs.size))) { s with heap := s.heap.push { cls := Value.type "tuple", data := Data.seq #[] }, toks := s.toks }) :=
  .of_wp fun prog w A R s h => by
    obtain ⟨hp, g, d, tk, os⟩ := s
    obtain ⟨hl, h⟩ := h
    have f1 := AutoSeq1.idx_int
    wp_walk using AutoSeq1.wpAny_loadPart' hl
    repeat (first
      | (refine wpAny_ite_false (decide_eq_false (by decide)) ?_; wp_walk using AutoSeq1.wpAny_loadPart' hl)
      | (refine wpAny_ite_false (decide_eq_false (by rw [c1]; exact Bool.false_ne_true)) ?_; wp_walk using AutoSeq1.wpAny_loadPart' hl))
    exact ⟨_, rfl, h⟩
theorem tuple_mul1 (l : Addr) (items : Array Value) (n : Nat) (dd : Option Addr) (sl : Array (Option Value)) (u : Tok) (c1 : (items.isEmpty || (1 : Int) == 1) = true) :
    Meets (Builtin.«tuple.__mul__» ⟨[.ref l, .int 1 u], []⟩) (fun _ R s => s.heap.get? l = some { cls := .type "tuple", dict := dd, data := .seq items n, slots := sl } ∧
      R (.ok (.ret (Value.ref l))) s) :=
  .of_wp fun prog w A R s h => by
    obtain ⟨hp, g, d, tk, os⟩ := s
    obtain ⟨hl, h⟩ := h
    have f1 := AutoSeq1.idx_int
    wp_walk using AutoSeq1.wpAny_loadPart' hl
    repeat (first
      | (refine wpAny_ite_true (decide_eq_true (by rw [c1])) ?_; wp_walk using AutoSeq1.wpAny_loadPart' hl)
      | (refine wpAny_ite_false (decide_eq_false (by decide)) ?_; wp_walk using AutoSeq1.wpAny_loadPart' hl))
    exact ⟨_, rfl, h⟩
def rRepA (K : PySem.W.Frag) : R2 := fun x y H Q => ∃ (l : Addr) (k : Nat) (xs : List V), x = .ref l ∧ y = .int (k : Int) ∧ SqT K H l xs ∧ xs ≠ [] ∧ k ≤ 1000 ∧ xs.length ≤ 1000 ∧ ∀ H' p, Same H H' → SqT K H' p (List.replicate k xs).flatten → Q (.ref p) H'
section
variable {X : Cx}
theorem op_repA : OpR X (binaryOp .Mult) (rRepA X.K) := by
  intro pins s σ H x y v u Q I rx ry h
  obtain ⟨l, k, xs, rfl, rfl, hT, hne, h2, hz, q⟩ := h
  by_cases hk : 2 ≤ k
  · exact op_repT pins s σ H _ _ v u Q I rx ry ⟨l, _, xs, rfl, rfl, hT, hne, by omega, by omega, hz, fun p np => q _ p (same_upd np) (by rw [Int.toNat_natCast]; exact SqT.of upd_same)⟩
  · cases rx
    obtain ⟨t, rfl⟩ := ry
    obtain ⟨its, r, ⟨⟨cls, dd, data, sl⟩, ho, hc, n, hd⟩, hs⟩ := I.tuple hT
    simp only at hc hd
    subst hc hd
    have hle : its.length = xs.length := r.length.symm
    have hn : its ≠ [] := fun e => hne (by
      rw [e] at hle
      exact List.eq_nil_of_length_eq_zero hle.symm)
    have hi : its.toArray.isEmpty = false := by
      cases its with
      | nil => exact absurd rfl hn
      | cons a b => rfl
    by_cases hk0 : k = 0
    · subst hk0
      have c1 : (its.toArray.isEmpty || (0 : Int) == 1) = false := by rw [hi]; rfl
      refine wpAny_binaryOp_repeat_ref (T := "tuple") (U := "int") (by decide) ⟨_, ho, rfl⟩ (fun s' => typeIs_int s' _ t) noFill_tuple_mul F.fills_int_mul F.slot_int_rmul repeat_tuple F.slot_int_index.lookup
        (call_meets F.slot_int_rmul (typeIs_int s _ t) F.entry_int_rmul (F.args_int_rmul_2 _ _) (L2.int_rmul_tuple _ t l its.toArray n dd sl)
          ⟨ho, rfl, ⟨_, ho, rfl⟩, call_meets F.slot_tuple_mul ⟨_, ho, rfl⟩ F.entry_tuple_mul (F.args_tuple_mul_2 _ _) (tuple_mul0 l its.toArray n dd sl t c1) ⟨ho, ?_⟩⟩)
      refine ⟨.ref s.heap.objs.size, _, I.laid (t' := s.toks) (o := .tup []) (fun b ob q => Heap.get?_push_of_some _ q) (Nat.le_refl _) ?_, rfl, q _ _ (same_upd (I.hok.fresh (Nat.le_refl _))) (SqT.of upd_same)⟩
      exact ⟨Nat.zero_le _, [], .nil, IsTup.new _ _⟩
    · have hk1 : k = 1 := by omega
      subst hk1
      have c1 : (its.toArray.isEmpty || (1 : Int) == 1) = true := by rw [hi]; rfl
      refine wpAny_binaryOp_repeat_ref (T := "tuple") (U := "int") (by decide) ⟨_, ho, rfl⟩ (fun s' => typeIs_int s' _ t) noFill_tuple_mul F.fills_int_mul F.slot_int_rmul repeat_tuple F.slot_int_index.lookup
        (call_meets F.slot_int_rmul (typeIs_int s _ t) F.entry_int_rmul (F.args_int_rmul_2 _ _) (L2.int_rmul_tuple _ t l its.toArray n dd sl)
          ⟨ho, rfl, ⟨_, ho, rfl⟩, call_meets F.slot_tuple_mul ⟨_, ho, rfl⟩ F.entry_tuple_mul (F.args_tuple_mul_2 _ _) (tuple_mul1 l its.toArray n dd sl t c1) ⟨ho, ?_⟩⟩)
      refine ⟨.ref l, H, I, rfl, q _ _ (Same.refl _) ?_⟩
      rw [show (List.replicate 1 xs).flatten = xs by simp]
      exact hT
end
/-! ### tuples of ints: without the last, with one more -/
theorem sIx_m1 (n : Nat) : HT.sIx (n + 1) (n + 1) (some (-1)) = n := by
  show (if (-1 : Int) < 0 then ((-1 : Int) + ((n + 1 : Nat) : Int)).toNat else min (-1 : Int).toNat (n + 1)) = n
  rw [if_pos (by decide)]
  omega
theorem sl_init {K : PySem.W.Frag} {H : Hp} {a : Addr} {xs : List V} {x : V} {Q : VK} (h : SqT K H a (xs ++ [x])) (q : ∀ H' p, Same H H' → SqT K H' p xs → Q (.ref p) H') : rSlA K (.ref a) none (some (-1)) H Q := by
  refine ⟨a, _, rfl, h, fun z => ?_, fun _ p np => q _ p (same_upd np) ?_⟩
  · have z2 := z.2
    rw [List.length_append, List.length_singleton, sIx_m1] at z2
    omega
  · have ec : cutV (xs ++ [x]) none (some (-1)) = xs := by
      unfold cutV
      rw [HT.sIx_none, List.drop_zero, List.length_append, List.length_singleton, sIx_m1, Nat.sub_zero, List.take_append_of_le_length (Nat.le_refl _), List.take_of_length_le (Nat.le_refl _)]
    rw [ec]
    exact SqT.of upd_same
theorem cat_sm {K : PySem.W.Frag} {H : Hp} {a b : Addr} {xs ys : List V} {Q : VK} (h : SqT K H a xs) (h2 : SqT K H b ys) (hl : xs.length + ys.length ≤ 100000) (q : ∀ H' p, Same H H' → SqT K H' p (xs ++ ys) → Q (.ref p) H') : rCatA K (.ref a) (.ref b) H Q := by
  refine ⟨a, b, xs, ys, rfl, rfl, h, h2, Nat.le_trans hl (by decide), fun z => ?_, fun _ z => ?_, fun _ _ p np => q _ p (same_upd np) (SqT.of upd_same)⟩
  · subst z
    exact q H b (Same.refl _) h2
  · subst z
    rw [List.append_nil] at q
    exact q H a (Same.refl _) h
theorem atI_lastI {xs : List Int} {x : Int} : atI ((xs ++ [x]).map V.int) (-1) = some (V.int x) := by
  rw [List.map_append]
  exact atI_last _ _
theorem kit_self {K : PySem.W.Frag} {C : Addr} : PySem.W.kitOne K (.ref C) (.ref C) = some true := by
  unfold PySem.W.kitOne
  rw [show (Value.ref C == Value.ref C) = true from beq_self_eq_true _, if_pos rfl]
/-! ### comprehensions over tuples and lists -/
theorem lc_yat {J : It} {n : Nat} {G : Hp → Prop} {xs : List V} (w : Walk J n G (YAt xs)) (hl : xs.length = n) {g : TG} {te : TE} {vs : List Nat} {σ : L2.St} {H1 : Hp} {D : Addr} {Qd : Hp → Prop} (f : V → V) (hD : H1 D = none) (hn : n ≤ 1000)
    (hG : ∀ H', Same H1 H' → G H')
    (hs : ∀ x H' (R : VK), x ∈ xs → Same H1 H' → (∀ H4, Same H' H4 → R (f x) H4) → g x (wipe σ vs) H' fun σ2 H2 => wipe σ2 vs = wipe σ vs ∧ te σ2 H2 R)
    (hd : ∀ H', Same H1 H' → H' D = some (.lst (xs.map f)) → Qd H') : LoopC J g tYes te vs σ H1 D Qd := by
  refine lc_ys w (xs.map f) hD hn (by rw [List.length_map, hl]) hG yat_same (fun i x y H1 H2 R hi hy s1 yy k => ?_) hd
  obtain ⟨rfl, e⟩ := yat_at yy
  rw [List.getElem?_map, e] at hy
  cases hy
  exact hs x _ R (List.mem_of_getElem? e) s1 k
theorem lc_tupI {K : PySem.W.Frag} {a : Addr} {xs : List Int} {g : TG} {te : TE} {vs : List Nat} {σ : L2.St} {H1 : Hp} {D : Addr} {Qd : Hp → Prop} (f : Int → Int) (hX : SqT K H1 a (xs.map V.int)) (hD : H1 D = none) (hn : xs.length ≤ 1000)
    (hs : ∀ x H' (R : VK), x ∈ xs → Same H1 H' → (∀ H4, Same H' H4 → R (.int (f x)) H4) → g (.int x) (wipe σ vs) H' fun σ2 H2 => wipe σ2 vs = wipe σ vs ∧ te σ2 H2 R)
    (hd : ∀ H', Same H1 H' → H' D = some (.lst ((xs.map f).map V.int)) → Qd H') : LoopC (Itt K a) g tYes te vs σ H1 D Qd := by
  refine lc_yat (walk_tup (xs := xs.map V.int)) rfl (fun v => match v with | .int x => .int (f x) | v => v) hD (by rw [List.length_map]; exact hn) (fun H' s => sameT s hX) (fun x H' R hx s1 k => ?_) (fun H' s' e => hd H' s' ?_)
  · obtain ⟨z, hz, rfl⟩ := List.mem_map.mp hx
    exact hs z H' R hz s1 k
  · rw [e, List.map_map, List.map_map]
    rfl
theorem lc_lstI {K : PySem.W.Frag} {a : Addr} {xs : List Int} {g : TG} {te : TE} {vs : List Nat} {σ : L2.St} {H1 : Hp} {D : Addr} {Qd : Hp → Prop} (f : Int → Int) (hX : SqL K H1 a (xs.map V.int)) (hD : H1 D = none) (hn : xs.length ≤ 1000)
    (hs : ∀ x H' (R : VK), x ∈ xs → Same H1 H' → (∀ H4, Same H' H4 → R (.int (f x)) H4) → g (.int x) (wipe σ vs) H' fun σ2 H2 => wipe σ2 vs = wipe σ vs ∧ te σ2 H2 R)
    (hd : ∀ H', Same H1 H' → H' D = some (.lst ((xs.map f).map V.int)) → Qd H') : LoopC (Itl K a) g tYes te vs σ H1 D Qd := by
  refine lc_yat (walk_list (xs := xs.map V.int)) rfl (fun v => match v with | .int x => .int (f x) | v => v) hD (by rw [List.length_map]; exact hn) (fun H' s => s.seq hX) (fun x H' R hx s1 k => ?_) (fun H' s' e => hd H' s' ?_)
  · obtain ⟨z, hz, rfl⟩ := List.mem_map.mp hx
    exact hs z H' R hz s1 k
  · rw [e, List.map_map, List.map_map]
    rfl
/-- with a test -/
theorem lc_yatF {J : It} {n : Nat} {G : Hp → Prop} {xs : List V} (w : Walk J n G (YAt xs)) (hl : xs.length = n) {g : TG} {tt : TT} {te : TE} {vs : List Nat} {σ : L2.St} {H1 : Hp} {D : Addr} {Qd : Hp → Prop} (b : V → Bool) (f : V → V) (hD : H1 D = none) (hn : n ≤ 1000)
    (hG : ∀ H', Same H1 H' → G H')
    (hs : ∀ x H' (N : Hp → Prop) (R : VK), x ∈ xs → Same H1 H' → (b x = false → ∀ H4, Same H' H4 → N H4) → (b x = true → ∀ H4, Same H' H4 → R (f x) H4) → g x (wipe σ vs) H' fun σ2 H2 => wipe σ2 vs = wipe σ vs ∧ tt σ2 H2 fun b H3 => if b = true then te σ2 H3 R else N H3)
    (hd : ∀ H', Same H1 H' → H' D = some (.lst ((xs.filter b).map f)) → Qd H') : LoopC J g tt te vs σ H1 D Qd := by
  refine loopc_it w (fun i H => Same H1 H ∧ H D = some (.lst (((xs.take i).filter b).map f))) ⟨same_upd hD, upd_same⟩ (fun i H _ p => hG H p.1) (fun i x H H' hi p y => ?_) (fun H p => hd H p.1 ?_)
  · obtain ⟨rfl, e⟩ := yat_at y
    have hx := List.mem_of_getElem? e
    have hi' : i < xs.length := by omega
    have et : xs.take (i + 1) = xs.take i ++ [x] := by
      rw [List.take_succ_eq_append_getElem hi', (List.getElem?_eq_some_iff.mp e).2]
    refine hs x _ _ _ hx p.1 (fun hb H4 s4 => ⟨p.1.trans s4, ?_⟩) (fun hb H4 s4 => ⟨_, s4 _ _ p.2, ?_, same_upd2 (p.1.trans s4) hD, ?_⟩)
    · rw [et, List.filter_append, List.filter_cons, hb, if_neg (by decide), List.filter_nil, List.append_nil]
      exact s4 _ _ p.2
    · rw [List.length_map]
      exact small1000 (Nat.le_trans (List.length_filter_le _ _) (by rw [List.length_take]; omega))
    · rw [upd_same, et, List.filter_append, List.filter_cons, hb, if_pos rfl, List.filter_nil, List.map_append]
      rfl
  · rw [p.2, ← hl, List.take_length]
theorem lc_tupIF {K : PySem.W.Frag} {a : Addr} {xs : List Int} {g : TG} {tt : TT} {te : TE} {vs : List Nat} {σ : L2.St} {H1 : Hp} {D : Addr} {Qd : Hp → Prop} (b : Int → Bool) (hX : SqT K H1 a (xs.map V.int)) (hD : H1 D = none) (hn : xs.length ≤ 1000)
    (hs : ∀ x H' (N : Hp → Prop) (R : VK), x ∈ xs → Same H1 H' → (b x = false → ∀ H4, Same H' H4 → N H4) → (b x = true → ∀ H4, Same H' H4 → R (.int x) H4) → g (.int x) (wipe σ vs) H' fun σ2 H2 => wipe σ2 vs = wipe σ vs ∧ tt σ2 H2 fun b H3 => if b = true then te σ2 H3 R else N H3)
    (hd : ∀ H', Same H1 H' → H' D = some (.lst ((xs.filter b).map V.int)) → Qd H') : LoopC (Itt K a) g tt te vs σ H1 D Qd := by
  refine lc_yatF (walk_tup (xs := xs.map V.int)) rfl (fun v => match v with | .int x => b x | _ => false) (fun v => v) hD (by rw [List.length_map]; exact hn) (fun H' s => sameT s hX) (fun x H' N R hx s1 k1 k2 => ?_) (fun H' s' e => hd H' s' ?_)
  · obtain ⟨z, hz, rfl⟩ := List.mem_map.mp hx
    exact hs z H' N R hz s1 k1 k2
  · rw [e, List.map_id'', List.filter_map]
    · rfl
    · intro _; rfl
/-- walked as a list or as a tuple -/
def iOr (w1 w2 : TI) : TI := fun σ H R => w1 σ H R ∨ w2 σ H R
theorem pi_or {X : Cx} {tg it : Expr} {w1 w2 : TI} (h1 : PI X tg it w1) (h2 : PI X tg it w2) : PI X tg it (iOr w1 w2) := ⟨fun pins s σ H R I h => h.elim (h1.run pins s σ H R I) (h2.run pins s σ H R I)⟩
end Bs
namespace Bs
open PySem L2 TL PySem.Spec PyProof.Rows
def forBody : Stmt → List Stmt
  | .For _ _ b _ _ => b
  | .While _ b _ _ => b
  | _ => []
/-! ### comprehensions whose elements are new objects -/
/-- what is said of an object stands when others are made, and when a list is changed -/
structure Stay {α : Type} (P : Hp → Addr → α → Prop) : Prop where
  same : ∀ {H H' : Hp} {a : Addr} {y : α}, P H a y → Same H H' → P H' a y
  lst : ∀ {H : Hp} {D a : Addr} {l l' : List V} {y : α}, H D = some (.lst l) → P H a y → P (upd H D (.lst l')) a y
def rsv {α : Type} (rs : List (Addr × α)) : List V := rs.map fun r => V.ref r.1
def RsAll {α : Type} (P : Hp → Addr → α → Prop) (H : Hp) (rs : List (Addr × α)) : Prop := ∀ r ∈ rs, P H r.1 r.2
theorem RsAll.same {α : Type} {P : Hp → Addr → α → Prop} (st : Stay P) {H H' : Hp} {rs : List (Addr × α)} (h : RsAll P H rs) (s : Same H H') : RsAll P H' rs := fun r hr => st.same (h r hr) s
theorem lc_rsF {α : Type} {P : Hp → Addr → α → Prop} (st : Stay P) {J : It} {n : Nat} {G : Hp → Prop} {Y : Nat → Hp → V → Hp → Prop} (w : Walk J n G Y) {g : TG} {tt : TT} {te : TE} {vs : List Nat} {σ : L2.St} {H1 : Hp} {D : Addr} {Qd : Hp → Prop} (ys : Nat → List α) (hy0 : ys 0 = []) (hD : H1 D = none) (hn : n ≤ 1000)
    (hl : ∀ i, i ≤ n → (ys i).length ≤ i) (hG : ∀ H', Same H1 H' → G H') (hY : ∀ i H x H', Y i H x H' → Same H H')
    (hs : ∀ i x H H' (N : Hp → Prop) (R : VK), i < n → Same H1 H' → Y i H x H' → (ys (i + 1) = ys i → ∀ H4, Same H' H4 → N H4) → (∀ y, ys (i + 1) = ys i ++ [y] → ∀ H4 a, Same H' H4 → P H4 a y → R (.ref a) H4) → g x (wipe σ vs) H' fun σ2 H2 => wipe σ2 vs = wipe σ vs ∧ tt σ2 H2 fun b H3 => if b = true then te σ2 H3 R else N H3)
    (hd : ∀ H' rs, Same H1 H' → H' D = some (.lst (rsv rs)) → RsAll P H' rs → rs.map (·.2) = ys n → Qd H') : LoopC J g tt te vs σ H1 D Qd := by
  refine loopc_it w (fun i H => Same H1 H ∧ ∃ rs, H D = some (.lst (rsv rs)) ∧ RsAll P H rs ∧ rs.map (·.2) = ys i) ⟨same_upd hD, [], upd_same, fun _ h => (by cases h), hy0.symm⟩ (fun i H _ p => hG H p.1) (fun i x H H' hi p y => ?_) (fun H p => ?_)
  · obtain ⟨s1, rs, e1, ha, hr⟩ := p
    have hYs := hY _ _ _ _ y
    refine hs i x H H' _ _ hi (s1.trans hYs) y (fun e H4 s4 => ?_) (fun z e H4 a s4 pz => ?_)
    · exact ⟨(s1.trans hYs).trans s4, rs, s4 _ _ (hYs _ _ e1), ha.same st (hYs.trans s4), by rw [e]; exact hr⟩
    · have e4 := s4 _ _ (hYs _ _ e1)
      have hl' := hl i (by omega)
      have hlen : rs.length = (ys i).length := by rw [← hr, List.length_map]
      refine ⟨_, e4, ?_, same_upd2 (s1.trans (hYs.trans s4)) hD, rs ++ [(a, z)], ?_, fun r h => ?_, ?_⟩
      · rw [rsv, List.length_map]
        exact small1000 (by omega)
      · rw [upd_same, rsv, rsv, List.map_append]
        rfl
      · rcases List.mem_append.mp h with h | h
        · exact st.lst e4 (ha.same st (hYs.trans s4) r h)
        · rw [List.mem_singleton.mp h]
          exact st.lst e4 pz
      · rw [e, List.map_append, hr]
        rfl
  · obtain ⟨s1, rs, e1, ha, hr⟩ := p
    exact hd H rs s1 e1 ha hr
theorem lc_rs {α : Type} {P : Hp → Addr → α → Prop} (st : Stay P) {J : It} {n : Nat} {G : Hp → Prop} {Y : Nat → Hp → V → Hp → Prop} (w : Walk J n G Y) {g : TG} {te : TE} {vs : List Nat} {σ : L2.St} {H1 : Hp} {D : Addr} {Qd : Hp → Prop} (ys : List α) (hD : H1 D = none) (hn : n ≤ 1000) (hl : ys.length = n)
    (hG : ∀ H', Same H1 H' → G H') (hY : ∀ i H x H', Y i H x H' → Same H H')
    (hs : ∀ i x y H H' (R : VK), i < n → ys[i]? = some y → Same H1 H' → Y i H x H' → (∀ H4 a, Same H' H4 → P H4 a y → R (.ref a) H4) → g x (wipe σ vs) H' fun σ2 H2 => wipe σ2 vs = wipe σ vs ∧ te σ2 H2 R)
    (hd : ∀ H' rs, Same H1 H' → H' D = some (.lst (rsv rs)) → RsAll P H' rs → rs.map (·.2) = ys → Qd H') : LoopC J g tYes te vs σ H1 D Qd := by
  refine lc_rsF st w (fun i => ys.take i) List.take_zero hD hn (fun i hi => by rw [List.length_take]; omega) hG hY (fun i x H H' N R hi s1 y kN kR => ?_) (fun H' rs s e a hr => hd H' rs s e a (by rw [hr, ← hl, List.take_length]))
  have hi' : i < ys.length := by omega
  have e : ys[i]? = some ys[i] := List.getElem?_eq_getElem hi'
  have q := hs i x ys[i] H H' R hi e s1 y (fun H4 a s4 p => kR _ (by rw [List.take_succ_eq_append_getElem hi']) H4 a s4 p)
  exact q
/-- [1 for x in xs if t(x)]: how many there are -/
theorem lc_count {J : It} {n : Nat} {G : Hp → Prop} {Y : Nat → Hp → V → Hp → Prop} (w : Walk J n G Y) {g : TG} {tt : TT} {te : TE} {vs : List Nat} {σ : L2.St} {H1 : Hp} {D : Addr} {Qd : Hp → Prop} (b : Nat → Bool) (f : Nat → V) (hD : H1 D = none) (hn : n ≤ 1000)
    (hG : ∀ H', Same H1 H' → G H') (hY : ∀ i H x H', Y i H x H' → Same H H')
    (hs : ∀ i x H H' (N : Hp → Prop) (R : VK), i < n → Same H1 H' → Y i H x H' → (b i = false → ∀ H4, Same H' H4 → N H4) → (b i = true → ∀ H4, Same H' H4 → R (f i) H4) → g x (wipe σ vs) H' fun σ2 H2 => wipe σ2 vs = wipe σ vs ∧ tt σ2 H2 fun b H3 => if b = true then te σ2 H3 R else N H3)
    (hd : ∀ H', Same H1 H' → H' D = some (.lst (((List.range n).filter b).map f)) → Qd H') : LoopC J g tt te vs σ H1 D Qd := by
  refine loopc_it w (fun i H => Same H1 H ∧ H D = some (.lst (((List.range i).filter b).map f))) ⟨same_upd hD, upd_same⟩ (fun i H _ p => hG H p.1) (fun i x H H' hi p y => ?_) (fun H p => hd H p.1 p.2)
  have hYs := hY _ _ _ _ y
  refine hs i x H H' _ _ hi (p.1.trans hYs) y (fun hb H4 s4 => ⟨p.1.trans (hYs.trans s4), ?_⟩) (fun hb H4 s4 => ⟨_, s4 _ _ (hYs _ _ p.2), ?_, same_upd2 (p.1.trans (hYs.trans s4)) hD, ?_⟩)
  · rw [List.range_succ, List.filter_append, List.filter_cons, hb, if_neg (by decide), List.filter_nil, List.append_nil]
    exact s4 _ _ (hYs _ _ p.2)
  · rw [List.length_map]
    exact small1000 (Nat.le_trans (List.length_filter_le _ _) (by rw [List.length_range]; omega))
  · rw [upd_same, List.range_succ, List.filter_append, List.filter_cons, hb, if_pos rfl, List.filter_nil, List.map_append]
    rfl
theorem range_filter_any {α : Type} (d : α) (b : α → Bool) : ∀ ys : List α, (List.range ys.length).any (fun i => b (ys[i]?.getD d)) = ys.any b := fun ys => by
  conv => rhs; rw [← range_getD d ys, List.any_map]
  rfl
theorem filter_len_pos {α : Type} (l : List α) (b : α → Bool) : decide (0 < ((l.filter b).length : Int)) = l.any b := by
  induction l with
  | nil => rfl
  | cons x r ih =>
    rw [List.filter_cons, List.any_cons]
    cases hb : b x with
    | true =>
      rw [if_pos rfl, List.length_cons]
      exact decide_eq_true (by omega)
    | false =>
      rw [if_neg (by decide), ih]
      rfl
end Bs
namespace K66
open PySem L2 TL Bs
local macro_rules | `(tactic| walk_at "wp") => `(tactic| simp only [tSeq, tAsg, gName, gTup, gCons, gNil, tVar, tC, tOp, tUn, rI, rI0, rU, tCB, tCons, tNil, tIfS, tRet, tRetN, tNext, tNever, test_eq, tB, tTup, tLst, tCall, tIf, tAndV, tOrV, tNotV, tNot, tAnd, tOr, rEq, rNe, scal_ii, scal_ss, scal_bb, dec_ii, dec_ss, dec_bb, for_eq, lc_eq, while_eq, tDrop, tYes, iList, iTup, iStr, iRng1, iRng2, RZ.iZipA, L2.start, rIxL, rIxT, rIxS, rSlS, cxK, tSl, tPart, tNoPart, tBM, tBM0, rAppend, rExtend, rRepS, rGcd, gSub, rSetL, tAug, ipI, rAdd, rSub, tM1, tM0,
  List.map_cons, List.map_nil, List.length_cons, List.length_nil, List.cons_append, List.nil_append, List.append_nil, List.getElem?_cons_succ, List.getElem?_cons_zero, List.set_cons_succ, List.set_cons_zero, Nat.reduceAdd, Nat.reduceSub, List.replicate_succ, List.replicate_zero, wipe,
  Option.some.injEq, V.int.injEq, V.str.injEq, sgn_eq, V.ref.injEq, V.bl.injEq, exists_eq_left, exists_eq_left', exists_and_left, exists_eq_right, List.cons.injEq, and_true, true_and, ex_bl, ex_int, exists_const, Nat.zero_add, Int.toNat_natCast, Int.zero_add, and_assoc, reduceCtorEq, false_and, and_false, exists_false, or_false, false_or, eq_self, decide_true, decide_false, ite_true, ite_false, if_true, if_false, Bool.false_eq_true, Bool.not_true, Bool.not_false, ↓reduceIte])
def top (i : Nat) : Stmt := PySem.Challenge.pw_loopworks_k66_failures_of_a_constraint.main.body.getD i (.Pass ⟨0, 0, 0, 0⟩)
abbrev s_multiply : Stmt := top 1
theorem sc_multiply : FnScope ["factor", "expression", "number"] ["factor", "expression"] (defScope s_multiply) := ⟨rfl, rfl, rfl, by decide +kernel, rfl, by decide +kernel, by decide +kernel⟩
abbrev s_with_constant_added : Stmt := top 2
theorem sc_with_constant_added : FnScope ["expression", "number"] ["expression", "number"] (defScope s_with_constant_added) := ⟨rfl, rfl, rfl, by decide +kernel, rfl, by decide +kernel, by decide +kernel⟩
abbrev s_failures : Stmt := top 4
theorem sc_failures : FnScope ["constraint", "expression", "below", "remainder"] ["constraint"] (defScope s_failures) := ⟨rfl, rfl, rfl, by decide +kernel, rfl, by decide +kernel, by decide +kernel⟩
abbrev s_law_cell : Stmt := top 6
theorem sc_law_cell : FnScope ["script", "k"] ["script", "k"] (defScope s_law_cell) := ⟨rfl, rfl, rfl, by decide +kernel, rfl, by decide +kernel, by decide +kernel⟩
abbrev s_law_draws : Stmt := top 7
theorem sc_law_draws : FnScope ["cell", "count", "result", "rest", "k", "mixed"] ["cell", "count"] (defScope s_law_draws) := ⟨rfl, rfl, rfl, by decide +kernel, rfl, by decide +kernel, by decide +kernel⟩
abbrev s_law_value : Stmt := top 8
theorem sc_law_value : FnScope ["expression", "point", "total", "coefficient", "value"] ["expression", "point"] (defScope s_law_value) := ⟨rfl, rfl, rfl, by decide +kernel, rfl, by decide +kernel, by decide +kernel⟩
abbrev s_law_holds : Stmt := top 9
theorem sc_law_holds : FnScope ["constraint", "point", "value"] ["constraint", "point"] (defScope s_law_holds) := ⟨rfl, rfl, rfl, by decide +kernel, rfl, by decide +kernel, by decide +kernel⟩
abbrev s_law_is_integer : Stmt := top 10
theorem sc_law_is_integer : FnScope ["value"] ["value"] (defScope s_law_is_integer) := ⟨rfl, rfl, rfl, by decide +kernel, rfl, by decide +kernel, by decide +kernel⟩
abbrev s_law_is_constraint : Stmt := top 11
theorem sc_law_is_constraint : FnScope ["constraint", "variables", "expression", "number"] ["constraint", "variables"] (defScope s_law_is_constraint) := ⟨rfl, rfl, rfl, by decide +kernel, rfl, by decide +kernel, by decide +kernel⟩
abbrev s_law_point : Stmt := top 12
theorem sc_law_point : FnScope ["cell", "variables", "number"] ["cell", "variables"] (defScope s_law_point) := ⟨rfl, rfl, rfl, by decide +kernel, rfl, by decide +kernel, by decide +kernel⟩
abbrev s_law_constraint : Stmt := top 13
theorem sc_law_constraint : FnScope ["cell", "point", "numbers", "size", "coefficients", "number", "value", "kind", "modulus", "slack", "constant"] ["cell", "point"] (defScope s_law_constraint) := ⟨rfl, rfl, rfl, by decide +kernel, rfl, by decide +kernel, by decide +kernel⟩
abbrev s_law : Stmt := top 14
theorem sc_law : FnScope ["script", "variables", "point", "other", "k", "constraint", "found", "due", "row", "at", "some"] ["script"] (defScope s_law) := ⟨rfl, rfl, rfl, by decide +kernel, rfl, by decide +kernel, by decide +kernel⟩
structure Ad where
  f_multiply : Addr
  f_with_constant_added : Addr
  f_failures : Addr
  f_law_cell : Addr
  f_law_draws : Addr
  f_law_value : Addr
  f_law_holds : Addr
  f_law_is_integer : Addr
  f_law_is_constraint : Addr
  f_law_point : Addr
  f_law_constraint : Addr
  f_law : Addr
  d_multiply : FuncData
  d_with_constant_added : FuncData
  d_failures : FuncData
  d_law_cell : FuncData
  d_law_draws : FuncData
  d_law_value : FuncData
  d_law_holds : FuncData
  d_law_is_integer : FuncData
  d_law_is_constraint : FuncData
  d_law_point : FuncData
  d_law_constraint : FuncData
  d_law : FuncData
structure Txt (K : PySem.W.Frag) (mg : Str → Option Value) (A : Ad) : Prop where
  b_tuple : mg "tuple" = none
  b_range : mg "range" = none
  b_len : mg "len" = none
  b_int : mg "int" = none
  b_zip : mg "zip" = none
  b_isinstance : mg "isinstance" = none
  b_bool : mg "bool" = none
  b_list : mg "list" = none
  g_multiply : mg "multiply" = some (.ref A.f_multiply)
  F_multiply : Fun K "multiply" "multiply" s_multiply A.f_multiply A.d_multiply
  B_multiply : Binds K A.d_multiply ["factor", "expression"] []
  g_with_constant_added : mg "with_constant_added" = some (.ref A.f_with_constant_added)
  F_with_constant_added : Fun K "with_constant_added" "with_constant_added" s_with_constant_added A.f_with_constant_added A.d_with_constant_added
  B_with_constant_added : Binds K A.d_with_constant_added ["expression", "number"] []
  g_failures : mg "failures" = some (.ref A.f_failures)
  F_failures : Fun K "failures" "failures" s_failures A.f_failures A.d_failures
  B_failures : Binds K A.d_failures ["constraint"] []
  g_law_cell : mg "_law_cell" = some (.ref A.f_law_cell)
  F_law_cell : Fun K "_law_cell" "_law_cell" s_law_cell A.f_law_cell A.d_law_cell
  B_law_cell : Binds K A.d_law_cell ["script", "k"] []
  g_law_draws : mg "_law_draws" = some (.ref A.f_law_draws)
  F_law_draws : Fun K "_law_draws" "_law_draws" s_law_draws A.f_law_draws A.d_law_draws
  B_law_draws : Binds K A.d_law_draws ["cell", "count"] []
  g_law_value : mg "_law_value" = some (.ref A.f_law_value)
  F_law_value : Fun K "_law_value" "_law_value" s_law_value A.f_law_value A.d_law_value
  B_law_value : Binds K A.d_law_value ["expression", "point"] []
  g_law_holds : mg "_law_holds" = some (.ref A.f_law_holds)
  F_law_holds : Fun K "_law_holds" "_law_holds" s_law_holds A.f_law_holds A.d_law_holds
  B_law_holds : Binds K A.d_law_holds ["constraint", "point"] []
  g_law_is_integer : mg "_law_is_integer" = some (.ref A.f_law_is_integer)
  F_law_is_integer : Fun K "_law_is_integer" "_law_is_integer" s_law_is_integer A.f_law_is_integer A.d_law_is_integer
  B_law_is_integer : Binds K A.d_law_is_integer ["value"] []
  g_law_is_constraint : mg "_law_is_constraint" = some (.ref A.f_law_is_constraint)
  F_law_is_constraint : Fun K "_law_is_constraint" "_law_is_constraint" s_law_is_constraint A.f_law_is_constraint A.d_law_is_constraint
  B_law_is_constraint : Binds K A.d_law_is_constraint ["constraint", "variables"] []
  g_law_point : mg "_law_point" = some (.ref A.f_law_point)
  F_law_point : Fun K "_law_point" "_law_point" s_law_point A.f_law_point A.d_law_point
  B_law_point : Binds K A.d_law_point ["cell", "variables"] []
  g_law_constraint : mg "_law_constraint" = some (.ref A.f_law_constraint)
  F_law_constraint : Fun K "_law_constraint" "_law_constraint" s_law_constraint A.f_law_constraint A.d_law_constraint
  B_law_constraint : Binds K A.d_law_constraint ["cell", "point"] []
  g_law : mg "law" = some (.ref A.f_law)
  F_law : Fun K "law" "law" s_law A.f_law A.d_law
  B_law : Binds K A.d_law ["script"] []
/-! ### constraints -/
inductive Kd where
  | ge | eq | div (m : Int)
deriving DecidableEq
structure Ct where
  k : Kd
  c : List Int
  d : Int
deriving DecidableEq
def dot : List Int → List Int → Int
  | c :: cs, p :: ps => c * p + dot cs ps
  | _, _ => 0
def Kd.holds : Kd → Int → Bool
  | .ge, v => decide (0 ≤ v)
  | .eq, v => decide (v = 0)
  | .div m, v => decide (v % m = 0)
def Ct.at_ (t : Ct) (p : List Int) : Bool := t.k.holds (dot t.c p + t.d)
def Kd.ok : Kd → Prop
  | .div m => 1 ≤ m
  | _ => True
/-- the greatest common divisor of a number and more of them -/
def gl (g : Nat) : List Int → Nat
  | [] => g
  | x :: r => gl (Nat.gcd g x.natAbs) r
theorem gl_dvd : ∀ (l : List Int) (g : Nat), gl g l ∣ g ∧ ∀ x ∈ l, (gl g l : Int) ∣ x
  | [], g => ⟨Nat.dvd_refl g, fun _ h => by cases h⟩
  | y :: r, g => by
    obtain ⟨h1, h2⟩ := gl_dvd r (Nat.gcd g y.natAbs)
    refine ⟨Nat.dvd_trans h1 (Nat.gcd_dvd_left _ _), fun x hx => ?_⟩
    rcases List.mem_cons.mp hx with rfl | hx
    · exact Int.ofNat_dvd_left.mpr (Nat.dvd_trans h1 (Nat.gcd_dvd_right _ _))
    · exact h2 x hx
theorem gl_great : ∀ (l : List Int) (g k : Nat), k ∣ g → (∀ x ∈ l, (k : Int) ∣ x) → k ∣ gl g l
  | [], _, _, h, _ => h
  | y :: r, g, k, h, hx => gl_great r _ k (Nat.dvd_gcd h (Int.ofNat_dvd_left.mp (hx y (List.mem_cons_self ..)))) (fun x h' => hx x (List.mem_cons_of_mem _ h'))
theorem gl_zero {l : List Int} {g : Nat} (h : gl g l = 0) : g = 0 ∧ ∀ x ∈ l, x = 0 := by
  obtain ⟨h1, h2⟩ := gl_dvd l g
  rw [h] at h1 h2
  exact ⟨Nat.eq_zero_of_zero_dvd h1, fun x hx => Int.zero_dvd.mp (h2 x hx)⟩
theorem gl_le {l : List Int} {g b : Nat} (hb : ∀ x ∈ l, x.natAbs ≤ b) (hg : g ≤ b) : gl g l ≤ b := by
  by_cases h0 : g = 0
  · subst h0
    clear hg
    induction l with
    | nil => exact Nat.zero_le _
    | cons y r ih =>
      rw [gl, Nat.gcd_zero_left]
      by_cases hy : y.natAbs = 0
      · rw [hy]; exact ih fun x hx => hb x (List.mem_cons_of_mem _ hx)
      · exact Nat.le_trans (Nat.le_of_dvd (by omega) (gl_dvd r _).1) (hb y (List.mem_cons_self ..))
  · exact Nat.le_trans (Nat.le_of_dvd (by omega) (gl_dvd l g).1) hg
/-- the greatest common divisor of divided numbers is 1 -/
theorem gl_div {l : List Int} {g : Nat} (hp : 0 < gl g l) : gl (g / gl g l) (l.map (· / (gl g l : Int))) = 1 := by
  obtain ⟨h1, h2⟩ := gl_dvd l g
  generalize hG : gl g l = G at *
  obtain ⟨i1, i2⟩ := gl_dvd (l.map (· / (G : Int))) (g / G)
  generalize hK : gl (g / G) (l.map (· / (G : Int))) = k at *
  have d1 : G * k ∣ g := by
    obtain ⟨a, e⟩ := i1
    refine ⟨a, ?_⟩
    rw [Nat.mul_assoc, ← e, Nat.mul_div_cancel' h1]
  have d2 : ∀ x ∈ l, ((G * k : Nat) : Int) ∣ x := fun x hx => by
    obtain ⟨a, e⟩ := i2 _ (List.mem_map.mpr ⟨x, hx, rfl⟩)
    refine ⟨a, ?_⟩
    rw [Int.natCast_mul, Int.mul_assoc, ← e, Int.mul_ediv_cancel' (h2 x hx)]
  have d3 := gl_great l g (G * k) d1 d2
  rw [hG] at d3
  have d4 : G * k ≤ G * 1 := by rw [Nat.mul_one]; exact Nat.le_of_dvd hp d3
  have d5 := Nat.le_of_mul_le_mul_left d4 hp
  have d6 : k ≠ 0 := fun z => by
    rw [z, Nat.mul_zero] at d3
    have := Nat.eq_zero_of_zero_dvd d3
    omega
  omega
theorem dot_map (g : Int) : ∀ (c p : List Int), (∀ x ∈ c, g ∣ x) → dot c p = g * dot (c.map (· / g)) p
  | [], _, _ => (Int.mul_zero g).symm
  | _ :: _, [], _ => (Int.mul_zero g).symm
  | x :: c, y :: p, h => by
    rw [List.map_cons, dot, dot, dot_map g c p fun z hz => h z (List.mem_cons_of_mem _ hz), Int.mul_add, ← Int.mul_assoc, Int.mul_ediv_cancel' (h x (List.mem_cons_self ..))]
theorem dot_zero : ∀ (c p : List Int), (∀ x ∈ c, x = 0) → dot c p = 0
  | [], _, _ => rfl
  | _ :: _, [], _ => rfl
  | x :: c, y :: p, h => by
    rw [dot, h x (List.mem_cons_self ..), dot_zero c p fun z hz => h z (List.mem_cons_of_mem _ hz), Int.zero_mul, Int.zero_add]
theorem dot_neg : ∀ (c p : List Int), dot (c.map (- ·)) p = - dot c p
  | [], _ => rfl
  | _ :: _, [] => rfl
  | x :: c, y :: p => by
    rw [List.map_cons, dot, dot, dot_neg c p, Int.neg_add, Int.neg_mul]
theorem dot_mod (m : Int) : ∀ (c p : List Int), (dot (c.map (· % m)) p) % m = (dot c p) % m
  | [], _ => rfl
  | _ :: _, [] => rfl
  | x :: c, y :: p => by
    rw [List.map_cons, dot, dot, Int.add_emod, dot_mod m c p, ← Int.add_emod, Int.add_emod, Int.mul_emod, Int.emod_emod_of_dvd x (Int.dvd_refl m), ← Int.mul_emod, ← Int.add_emod]
def imp (n : Nat) : Ct := ⟨.ge, List.replicate n 0, -1⟩
def red (t : Ct) : Option Ct :=
  match t.k with
  | .ge => let g := gl 0 t.c
    if 0 < g then some ⟨.ge, t.c.map (· / (g : Int)), t.d / (g : Int)⟩ else if 0 ≤ t.d then none else some (imp t.c.length)
  | .eq => let g := gl 0 t.c
    if g = 0 ∧ t.d = 0 then none else if g = 0 ∨ t.d % (g : Int) ≠ 0 then some (imp t.c.length) else
    let ns := t.c.map (· / (g : Int))
    if 0 < ((ns.filter (· ≠ 0)).headD 0) then some ⟨.eq, ns, t.d / (g : Int)⟩ else some ⟨.eq, ns.map (- ·), -(t.d / (g : Int))⟩
  | .div m => let ns := t.c.map (· % m)
    let h := gl m.toNat ns
    if (t.d % m) % (h : Int) ≠ 0 then some (imp t.c.length) else
    if h = m.toNat then none else some ⟨.div (m / (h : Int)), ns.map (· / (h : Int)), (t.d % m) / (h : Int)⟩
theorem imp_at (n : Nat) (p : List Int) : (imp n).at_ p = false := by
  rw [Ct.at_, imp, dot_zero _ _ (fun x hx => List.eq_of_mem_replicate hx)]
  rfl
def rAt (o : Option Ct) (p : List Int) : Bool := match o with | none => true | some t => t.at_ p
theorem div_mul (m : Int) (g : Nat) (_ : 0 < g) (hd : (g : Int) ∣ m) (v : Int) : decide (((g : Int) * v) % m = 0) = decide (v % (m / (g : Int)) = 0) := by
  refine decide_eq_decide.mpr ?_
  obtain ⟨k, rfl⟩ := hd
  have hg : (g : Int) ≠ 0 := by omega
  rw [Int.mul_ediv_cancel_left k hg]
  constructor
  · intro h
    obtain ⟨a, e⟩ := Int.dvd_of_emod_eq_zero h
    rw [Int.mul_assoc] at e
    exact Int.emod_eq_zero_of_dvd ⟨a, Int.eq_of_mul_eq_mul_left hg e⟩
  · intro h
    obtain ⟨a, rfl⟩ := Int.dvd_of_emod_eq_zero h
    exact Int.emod_eq_zero_of_dvd ⟨a, (Int.mul_assoc ..).symm⟩
theorem gl_toNat_dvd {m : Int} (hm : 1 ≤ m) (l : List Int) : ((gl m.toNat l : Nat) : Int) ∣ m := by
  have h : ((gl m.toNat l : Nat) : Int) ∣ (m.toNat : Int) := Int.natCast_dvd_natCast.mpr (gl_dvd l m.toNat).1
  rw [Int.toNat_of_nonneg (by omega)] at h
  exact h
theorem gl_pos {m : Int} (hm : 1 ≤ m) (l : List Int) : 0 < gl m.toNat l := by
  rcases Nat.eq_zero_or_pos (gl m.toNat l) with h | h
  · have := (gl_zero h).1
    omega
  · exact h
theorem red_at (t : Ct) (ok : t.k.ok) (p : List Int) : rAt (red t) p = t.at_ p := by
  obtain ⟨k, c, d⟩ := t
  cases k with
  | ge =>
    simp only [red]
    by_cases hg : 0 < gl 0 c
    · rw [if_pos hg]
      simp only [rAt, Ct.at_, Kd.holds]
      have hd := (gl_dvd c 0).2
      generalize gl 0 c = g at *
      rw [dot_map (g : Int) c p hd]
      refine decide_eq_decide.mpr ?_
      generalize dot (c.map (· / (g : Int))) p = v
      have e1 := Int.mul_ediv_add_emod d (g : Int)
      have e2 := Int.emod_nonneg d (show (g : Int) ≠ 0 by omega)
      have e3 := Int.emod_lt_of_pos d (show (0 : Int) < (g : Int) by omega)
      generalize d / (g : Int) = q at *
      generalize d % (g : Int) = r at *
      subst e1
      constructor
      · intro h
        have := Int.mul_nonneg (show (0 : Int) ≤ g by omega) h
        rw [Int.mul_add] at this
        omega
      · intro h
        rcases Int.lt_or_le (v + q) 0 with hlt | hle
        · have h1 : (g : Int) * (v + q) ≤ (g : Int) * (-1) := Int.mul_le_mul_of_nonneg_left (by omega) (by omega)
          rw [Int.mul_add] at h1
          omega
        · exact hle
    · rw [if_neg hg]
      have hz := (gl_zero (Nat.le_zero.mp (Nat.not_lt.mp hg))).2
      by_cases h0 : 0 ≤ d
      · rw [if_pos h0]
        simp only [rAt, Ct.at_, Kd.holds, dot_zero c p hz]
        exact (decide_eq_true (by omega)).symm
      · rw [if_neg h0]
        simp only [rAt, imp_at]
        simp only [Ct.at_, Kd.holds, dot_zero c p hz]
        exact (decide_eq_false (by omega)).symm
  | eq =>
    simp only [red]
    by_cases h1 : gl 0 c = 0 ∧ d = 0
    · rw [if_pos h1]
      have hz := (gl_zero h1.1).2
      simp only [rAt, Ct.at_, Kd.holds, dot_zero c p hz]
      exact (decide_eq_true (by omega)).symm
    · rw [if_neg h1]
      by_cases h2 : gl 0 c = 0 ∨ d % (gl 0 c : Int) ≠ 0
      · rw [if_pos h2]
        simp only [rAt, imp_at]
        simp only [Ct.at_, Kd.holds]
        symm
        refine decide_eq_false fun hv => ?_
        by_cases hg : gl 0 c = 0
        · have hz := (gl_zero hg).2
          rw [dot_zero c p hz] at hv
          exact h1 ⟨hg, by omega⟩
        · rcases h2 with h2 | h2
          · exact hg h2
          · have hd := (gl_dvd c 0).2
            rw [dot_map _ c p hd] at hv
            refine h2 (Int.emod_eq_zero_of_dvd ⟨-dot (c.map (· / (gl 0 c : Int))) p, ?_⟩)
            rw [Int.mul_neg]
            omega
      · rw [if_neg h2]
        have hg : gl 0 c ≠ 0 := fun z => h2 (.inl z)
        have hr : d % (gl 0 c : Int) = 0 := Classical.byContradiction fun z => h2 (.inr z)
        have hd := (gl_dvd c 0).2
        have main : decide (dot c p + d = 0) = decide (dot (c.map (· / (gl 0 c : Int))) p + d / (gl 0 c : Int) = 0) := by
          refine decide_eq_decide.mpr ?_
          have ed := Int.mul_ediv_cancel' (Int.dvd_of_emod_eq_zero hr)
          rw [dot_map _ c p hd]
          generalize dot (c.map (· / (gl 0 c : Int))) p = v
          generalize d / (gl 0 c : Int) = q at *
          rw [← ed, ← Int.mul_add]
          constructor
          · intro h
            rcases Int.mul_eq_zero.mp h with h | h
            · omega
            · exact h
          · intro h
            rw [h, Int.mul_zero]
        split
        · simp only [rAt, Ct.at_, Kd.holds]
          exact main.symm
        · simp only [rAt, Ct.at_, Kd.holds, dot_neg]
          rw [main]
          exact decide_eq_decide.mpr (by omega)
  | div m =>
    have hm : 1 ≤ m := ok
    simp only [red]
    have hD := gl_toNat_dvd hm (c.map (· % m))
    have hP := gl_pos hm (c.map (· % m))
    have hA := (gl_dvd (c.map (· % m)) m.toNat).2
    have base : decide ((dot c p + d) % m = 0) = decide ((dot (c.map (· % m)) p + d % m) % m = 0) := by
      rw [Int.add_emod (dot c p) d, Int.add_emod (dot (c.map (· % m)) p) (d % m), dot_mod, Int.emod_emod_of_dvd d (Int.dvd_refl m)]
    generalize gl m.toNat (c.map (· % m)) = h at *
    rw [dot_map (h : Int) _ p hA] at base
    generalize hv : dot (List.map (· / (h : Int)) (c.map (· % m))) p = v at base
    by_cases h1 : (d % m) % (h : Int) ≠ 0
    · rw [if_pos h1]
      simp only [rAt, imp_at]
      simp only [Ct.at_, Kd.holds]
      rw [base]
      symm
      refine decide_eq_false fun e => h1 ?_
      have e2 := Int.dvd_trans hD (Int.dvd_of_emod_eq_zero e)
      exact Int.emod_eq_zero_of_dvd ((Int.dvd_iff_dvd_of_dvd_add e2).mp ⟨v, rfl⟩)
    · rw [if_neg h1]
      have hr : (d % m) % (h : Int) = 0 := Classical.byContradiction h1
      have ed := Int.mul_ediv_cancel' (Int.dvd_of_emod_eq_zero hr)
      rw [← ed, ← Int.mul_add, div_mul m h hP hD] at base
      by_cases h2 : h = m.toNat
      · rw [if_pos h2]
        simp only [rAt, Ct.at_, Kd.holds]
        rw [base]
        have e1 : m / (h : Int) = 1 := by
          rw [h2, Int.toNat_of_nonneg (by omega)]
          exact Int.ediv_self (by omega)
        rw [e1]
        exact (decide_eq_true (Int.emod_one _)).symm
      · rw [if_neg h2]
        simp only [rAt, Ct.at_, Kd.holds]
        rw [base, hv]
theorem red_ok {t u : Ct} (ok : t.k.ok) (h : red t = some u) : u.k.ok ∧ u.c.length = t.c.length := by
  obtain ⟨k, c, d⟩ := t
  cases k with
  | ge =>
    simp only [red] at h
    split at h
    · cases h; exact ⟨trivial, List.length_map ..⟩
    · split at h
      · cases h
      · cases h; exact ⟨trivial, List.length_replicate ..⟩
  | eq =>
    simp only [red] at h
    split at h
    · cases h
    · split at h
      · cases h; exact ⟨trivial, List.length_replicate ..⟩
      · split at h
        · cases h; exact ⟨trivial, List.length_map ..⟩
        · cases h; exact ⟨trivial, by rw [List.length_map, List.length_map]⟩
  | div m =>
    have hm : 1 ≤ m := ok
    simp only [red] at h
    have hD := gl_toNat_dvd hm (c.map (· % m))
    have hP := gl_pos hm (c.map (· % m))
    generalize gl m.toNat (c.map (· % m)) = g at *
    split at h
    · cases h; exact ⟨trivial, List.length_replicate ..⟩
    · split at h
      · cases h
      · cases h
        refine ⟨?_, by rw [List.length_map, List.length_map]⟩
        show 1 ≤ m / (g : Int)
        obtain ⟨k, rfl⟩ := hD
        rw [Int.mul_ediv_cancel_left k (by omega)]
        rcases Int.lt_or_le k 1 with hk | hk
        · have : (g : Int) * k ≤ (g : Int) * 0 := Int.mul_le_mul_of_nonneg_left (by omega) (by omega)
          omega
        · exact hk
theorem gl_rep (n : Nat) : gl 0 (List.replicate n 0) = 0 := by
  induction n with
  | zero => rfl
  | succ n ih => rw [List.replicate_succ, gl]; exact ih
theorem red_imp (n : Nat) : red (imp n) = some (imp n) := by
  unfold imp
  simp only [red]
  rw [gl_rep]
  rw [if_neg (by decide), if_neg (by decide)]
  unfold imp
  rw [List.length_replicate]
theorem map_div1 (l : List Int) : l.map (· / ((1 : Nat) : Int)) = l := by
  induction l with
  | nil => rfl
  | cons x r ih => rw [List.map_cons, ih, show x / ((1 : Nat) : Int) = x from Int.ediv_one x]
theorem gl_neg : ∀ (l : List Int) (g : Nat), gl g (l.map (- ·)) = gl g l
  | [], _ => rfl
  | x :: r, g => by rw [List.map_cons, gl, gl, Int.natAbs_neg, gl_neg r]
theorem filter_neg : ∀ (l : List Int), ((l.map (- ·)).filter (· ≠ 0)).headD 0 = - ((l.filter (· ≠ 0)).headD 0)
  | [] => rfl
  | x :: r => by
    rw [List.map_cons, List.filter_cons, List.filter_cons]
    by_cases hx : x = 0
    · subst hx
      exact filter_neg r
    · rw [if_pos (decide_eq_true (show - x ≠ 0 by omega)), if_pos (decide_eq_true hx)]
      rfl
theorem filter_head : ∀ (l : List Int), (∃ x ∈ l, x ≠ 0) → (l.filter (· ≠ 0)).headD 0 ≠ 0
  | [], h => by obtain ⟨_, h, _⟩ := h; cases h
  | y :: r, h => by
    rw [List.filter_cons]
    by_cases hy : y = 0
    · subst hy
      obtain ⟨x, hx, n⟩ := h
      rcases List.mem_cons.mp hx with rfl | hx
      · exact absurd rfl n
      · exact filter_head r ⟨x, hx, n⟩
    · rw [if_pos (decide_eq_true hy)]
      exact hy
theorem gl_one_ne {l : List Int} (h : gl 0 l = 1) : ∃ x ∈ l, x ≠ 0 := by
  refine Classical.byContradiction fun z => ?_
  have : ∀ x ∈ l, x = 0 := fun x hx => Classical.byContradiction fun n => z ⟨x, hx, n⟩
  have h0 : (0 : Nat) ∣ gl 0 l := gl_great l 0 0 (Nat.dvd_refl 0) fun x hx => by rw [this x hx]; exact Int.dvd_refl 0
  rw [h] at h0
  have := Nat.eq_zero_of_zero_dvd h0
  omega
theorem red_idem {t u : Ct} (ok : t.k.ok) (h : red t = some u) : red u = some u := by
  obtain ⟨k, c, d⟩ := t
  cases k with
  | ge =>
    simp only [red] at h
    split at h
    · rename_i hg
      cases h
      have e := gl_div hg
      rw [Nat.zero_div] at e
      simp only [red]
      rw [e, if_pos (by decide), map_div1, show ∀ x : Int, x / ((1 : Nat) : Int) = x from Int.ediv_one]
    · split at h
      · cases h
      · cases h; exact red_imp _
  | eq =>
    simp only [red] at h
    split at h
    · cases h
    · split at h
      · cases h; exact red_imp _
      · rename_i h2
        have hg : 0 < gl 0 c := Nat.pos_of_ne_zero fun z => h2 (.inl z)
        have e := gl_div hg
        rw [Nat.zero_div] at e
        have d1 : ∀ x : Int, x / ((1 : Nat) : Int) = x := Int.ediv_one
        have m1 : ∀ x : Int, x % ((1 : Nat) : Int) = 0 := Int.emod_one
        split at h
        · rename_i hp
          cases h
          simp only [red]
          rw [e, if_neg (by omega), if_neg (by rw [m1]; rintro (z | z); exact absurd z (by decide); exact z rfl), map_div1, d1, if_pos hp]
        · rename_i hp
          cases h
          simp only [red]
          rw [gl_neg, e, if_neg (by omega), if_neg (by rw [m1]; rintro (z | z); exact absurd z (by decide); exact z rfl), map_div1, d1, filter_neg, if_pos ?_]
          have := filter_head _ (gl_one_ne e)
          omega
  | div m =>
    have hm : 1 ≤ m := ok
    simp only [red] at h
    have hD := gl_toNat_dvd hm (c.map (· % m))
    have hP := gl_pos hm (c.map (· % m))
    have hA := (gl_dvd (c.map (· % m)) m.toNat).2
    have e := gl_div hP
    split at h
    · cases h; exact red_imp _
    · rename_i h1
      have hr : (d % m) % ((gl m.toNat (c.map (· % m)) : Nat) : Int) = 0 := Classical.byContradiction h1
      split at h
      · cases h
      · rename_i h2
        cases h
        generalize hG : gl m.toNat (c.map (· % m)) = g at *
        have hgp : (0 : Int) < (g : Int) := by omega
        have key : ∀ x : Int, 0 ≤ x → x < m → (g : Int) ∣ x → x / (g : Int) % (m / (g : Int)) = x / (g : Int) := fun x x0 xm xd => by
          refine Int.emod_eq_of_lt (Int.ediv_nonneg x0 (by omega)) ?_
          obtain ⟨a, rfl⟩ := xd
          obtain ⟨b, rfl⟩ := hD
          rw [Int.mul_ediv_cancel_left a (by omega), Int.mul_ediv_cancel_left b (by omega)]
          exact Int.lt_of_mul_lt_mul_left xm (by omega)
        have mm : ∀ x : Int, 0 ≤ x % m ∧ x % m < m := fun x => ⟨Int.emod_nonneg _ (by omega), Int.emod_lt_of_pos _ (by omega)⟩
        have e1 : ((c.map (· % m)).map (· / (g : Int))).map (· % (m / (g : Int))) = (c.map (· % m)).map (· / (g : Int)) := by
          rw [List.map_map]
          refine List.map_congr_left fun x hx => ?_
          obtain ⟨y, _, rfl⟩ := List.mem_map.mp hx
          exact key _ (mm y).1 (mm y).2 (hA _ hx)
        have e2 := key _ (mm d).1 (mm d).2 (Int.dvd_of_emod_eq_zero hr)
        have e3 : (m / (g : Int)).toNat = m.toNat / g := by
          have : m = ((m.toNat : Nat) : Int) := (Int.toNat_of_nonneg (by omega)).symm
          rw [this, Int.toNat_natCast, ← Int.natCast_ediv, Int.toNat_natCast]
        simp only [red]
        rw [e1, e2, e3, e, if_neg (by rw [show ∀ x : Int, x % ((1 : Nat) : Int) = 0 from Int.emod_one]; exact fun z => z rfl), map_div1, if_neg ?_, show ∀ x : Int, x / ((1 : Nat) : Int) = x from Int.ediv_one, show ∀ x : Int, x / ((1 : Nat) : Int) = x from Int.ediv_one]
        intro z
        refine h2 ?_
        have hd : g ∣ m.toNat := by
          rw [← hG]
          exact (gl_dvd _ _).1
        have := Nat.div_mul_cancel hd
        rw [← z, Nat.one_mul] at this
        exact this
theorem gl_snoc (x : Int) : ∀ (l : List Int) (g : Nat), gl g (l ++ [x]) = Nat.gcd (gl g l) x.natAbs
  | [], _ => rfl
  | y :: r, g => by rw [List.cons_append, gl, gl, gl_snoc x r]
theorem imp_cs (n : Nat) : ∀ x ∈ (imp n).c, x = 0 := fun x hx => List.eq_of_mem_replicate hx
/-! ### constraints in memory -/
def Kd.v : Kd → Addr → List V
  | .ge, a => [.str "ge", .ref a]
  | .eq, a => [.str "eq", .ref a]
  | .div m, a => [.str "div", .int m, .ref a]
def Ct.e (t : Ct) : List Int := t.c ++ [t.d]
def CtT (K : PySem.W.Frag) (H : Hp) (x : Addr) (t : Ct) : Prop := ∃ a, SqT K H x (t.k.v a) ∧ SqT K H a (t.e.map V.int)
theorem CtT.same {K : PySem.W.Frag} {H H' : Hp} {x : Addr} {t : Ct} (h : CtT K H x t) (s : Same H H') : CtT K H' x t := let ⟨a, h1, h2⟩ := h; ⟨a, sameT s h1, sameT s h2⟩
theorem kv_last {k : Kd} {a : Addr} : atI (k.v a) (-1) = some (V.ref a) := by cases k <;> rfl
theorem e_last {t : Ct} : atI (t.e.map V.int) (-1) = some (V.int t.d) := atI_lastI
def ROp (K : PySem.W.Frag) (H : Hp) (v : V) (r : Option Ct) : Prop := match r with | none => v = .non | some u => ∃ x, v = .ref x ∧ CtT K H x u
/-- numbers that are not too great for // -/
def Nz (t : Ct) : Prop := t.c.length ≤ 90 ∧ (∀ x ∈ t.e, Sz 8000 x) ∧ match t.k with | .div m => Sz 8000 m | _ => True
theorem sz_gl {l : List Int} {g : Nat} {b : Nat} (hl : ∀ x ∈ l, Sz b x) (hg : Sz b (g : Int)) : Sz b ((gl g l : Nat) : Int) := by
  unfold Sz at *
  rw [Int.natAbs_natCast] at *
  have hp : 0 < 2 ^ b := Nat.pow_pos (by decide)
  have := gl_le (l := l) (g := g) (b := 2 ^ b - 1) (fun x hx => by have := hl x hx; omega) (by omega)
  omega
theorem sz_div {b : Nat} {x g : Int} (h : Sz b x) (hg : 0 < g) : Sz b (x / g) := by
  unfold Sz at *
  refine Nat.lt_of_le_of_lt (Int.natAbs_ediv_le_natAbs x g) h
theorem sz_mod {b : Nat} {x m : Int} (hm : 1 ≤ m) (h : Sz b m) : Sz b (x % m) := by
  unfold Sz at *
  have h1 := Int.emod_nonneg x (show m ≠ 0 by omega)
  have h2 := Int.emod_lt_of_pos x (show 0 < m by omega)
  omega
theorem cdivw {i g : Int} {b : Nat} (hg : 0 < g) (h : Sz b g) (h0 : 0 < b) (hb : b ≤ 9000) : CDivW i g := wide_div hg h h0 hb
theorem flt_ne (l : List Int) : l.filter (fun x => decide (x ≠ 0)) = l.filter (· ≠ 0) := rfl
theorem Nz.c {t : Ct} (h : Nz t) : ∀ x ∈ t.c, Sz 8000 x := fun x hx => h.2.1 x (List.mem_append_left _ hx)
theorem Nz.d {t : Ct} (h : Nz t) : Sz 8000 t.d := h.2.1 _ (List.mem_append_right _ (List.mem_singleton.mpr rfl))
theorem Nz.len {t : Ct} (h : Nz t) : t.e.length ≤ 91 := by
  show (t.c ++ [t.d]).length ≤ 91
  rw [List.length_append, List.length_singleton]
  have := h.1
  omega
theorem e_len (t : Ct) : (t.e.map V.int).length = t.c.length + 1 := by
  rw [List.length_map, Ct.e, List.length_append, List.length_singleton]
/-- a new constraint -/
theorem ct_new {K : PySem.W.Frag} {H0 H : Hp} {p a : Addr} {k : Kd} {t : Ct} (s : Same H0 H) (np : H p = none) (ha : SqT K H a (t.e.map V.int)) (hk : t.k = k) : Same H0 (upd H p (.tup (k.v a))) ∧ CtT K (upd H p (.tup (k.v a))) p t :=
  ⟨s.trans (same_upd np), a, by rw [hk]; exact SqT.of upd_same, sameT (same_upd np) ha⟩
theorem e_map (f : Int → Int) (t : Ct) (k : Kd) : t.e.map f = (Ct.mk k (t.c.map f) (f t.d)).e := by
  rw [Ct.e, List.map_append]
  rfl
theorem sz_one (a : Nat) (h : 1 ≤ a) : Sz a (-1) := by
  unfold Sz
  exact Nat.one_lt_two_pow (by omega)
theorem sz_neg {a : Nat} {x : Int} (h : Sz a x) : Sz a (-x) := by
  unfold Sz at *
  rw [Int.natAbs_neg]
  exact h
theorem red_all {b : Nat} (hb : 1 ≤ b) {t u : Ct} (ok : t.k.ok) (h : red t = some u) (hc : ∀ x ∈ t.c, Sz b x) (hd : Sz b t.d) (hm : match t.k with | .div m => Sz b m | _ => True) :
    (∀ x ∈ u.c, Sz b x) ∧ Sz b u.d ∧ match u.k with | .div m => Sz b m | _ => True := by
  obtain ⟨k, c, d⟩ := t
  have hi : (∀ x ∈ (imp c.length).c, Sz b x) ∧ Sz b (imp c.length).d ∧ match (imp c.length).k with | .div m => Sz b m | _ => True := ⟨fun x hx => by rw [imp_cs _ x hx]; exact Sz.zero _, sz_one b hb, trivial⟩
  cases k with
  | ge =>
    simp only [red] at h
    split at h
    · cases h
      refine ⟨fun x hx => ?_, sz_div hd (by omega), trivial⟩
      obtain ⟨y, hy, rfl⟩ := List.mem_map.mp hx
      exact sz_div (hc y hy) (by omega)
    · split at h
      · cases h
      · cases h; exact hi
  | eq =>
    simp only [red] at h
    split at h
    · cases h
    · split at h
      · cases h; exact hi
      · rename_i h2
        have hg : 0 < gl 0 c := Nat.pos_of_ne_zero fun z => h2 (.inl z)
        have hcs : ∀ x ∈ c.map (· / (gl 0 c : Int)), Sz b x := fun x hx => by
          obtain ⟨y, hy, rfl⟩ := List.mem_map.mp hx
          exact sz_div (hc y hy) (by omega)
        split at h
        · cases h
          exact ⟨hcs, sz_div hd (by omega), trivial⟩
        · cases h
          refine ⟨fun x hx => ?_, sz_neg (sz_div hd (by omega)), trivial⟩
          obtain ⟨y, hy, rfl⟩ := List.mem_map.mp hx
          exact sz_neg (hcs y hy)
  | div m =>
    have hm1 : 1 ≤ m := ok
    have hP := gl_pos hm1 (c.map (· % m))
    simp only [red] at h
    split at h
    · cases h; exact hi
    · split at h
      · cases h
      · cases h
        refine ⟨fun x hx => ?_, sz_div (sz_mod hm1 hm) (by omega), sz_div (b := b) hm (by omega)⟩
        obtain ⟨y, hy, rfl⟩ := List.mem_map.mp hx
        obtain ⟨z, hz, rfl⟩ := List.mem_map.mp hy
        exact sz_div (sz_mod hm1 hm) (by omega)
def dotk (c p : List Int) : Nat → Int
  | 0 => 0
  | i + 1 => dotk c p i + c.getD i 0 * p.getD i 0
theorem dotk_cons (a b : Int) (c p : List Int) : ∀ i, dotk (a :: c) (b :: p) (i + 1) = a * b + dotk c p i
  | 0 => by simp [dotk]
  | i + 1 => by
    rw [dotk, dotk_cons a b c p i, dotk]
    simp only [List.getD_cons_succ]
    omega
theorem dotk_eq : ∀ (c p : List Int), c.length = p.length → dotk c p p.length = dot c p
  | [], [], _ => rfl
  | a :: c, b :: p, h => by
    rw [List.length_cons, dotk_cons, dotk_eq c p (by simpa using h), dot]
theorem sum_range : ∀ (f : Nat → Int) (n : Nat) (c p : List Int), (∀ i, f i = c.getD i 0 * p.getD i 0) → ((List.range n).map f).sum = dotk c p n
  | f, 0, c, p, h => rfl
  | f, n + 1, c, p, h => by
    rw [List.range_succ, List.map_append, List.sum_append, sum_range f n c p h]
    simp [dotk, h]
theorem getE {c : List Int} {d : Int} {i : Nat} (h : i < c.length) : ((c ++ [d]).map V.int)[i]? = some (V.int (c.getD i 0)) := by
  rw [List.getElem?_map, List.getElem?_append_left h, List.getElem?_eq_getElem h, List.getD_eq_getElem?_getD, List.getElem?_eq_getElem h]
  rfl
theorem getP {p : List Int} {i : Nat} (h : i < p.length) : (p.map V.int)[i]? = some (V.int (p.getD i 0)) := by
  rw [List.getElem?_map, List.getElem?_eq_getElem h, List.getD_eq_getElem?_getD, List.getElem?_eq_getElem h]
  rfl
theorem memD {p : List Int} {i : Nat} (h : i < p.length) : p.getD i 0 ∈ p := by
  rw [List.getD_eq_getElem?_getD, List.getElem?_eq_getElem h]
  exact List.getElem_mem h
theorem dot_sz {a b : Nat} : ∀ (c p : List Int), (∀ x ∈ c, Sz a x) → (∀ y ∈ p, Sz b y) → Sz (a + b + c.length) (dot c p)
  | [], _, _, _ => Sz.zero _
  | _ :: _, [], _, _ => Sz.zero _
  | x :: c, y :: p, h, k => by
    rw [dot]
    have h1 := (h x List.mem_cons_self).mul (k y List.mem_cons_self)
    have h2 := dot_sz c p (fun z hz => h z (List.mem_cons_of_mem _ hz)) (fun z hz => k z (List.mem_cons_of_mem _ hz))
    exact (h1.mono (Nat.le_add_right _ c.length)).add h2
theorem s_ge_eq : (Str.ofString "ge" = Str.ofString "eq") = False := eq_false (by decide +kernel)
theorem s_ge_div : (Str.ofString "ge" = Str.ofString "div") = False := eq_false (by decide +kernel)
theorem s_eq_ge : (Str.ofString "eq" = Str.ofString "ge") = False := eq_false (by decide +kernel)
theorem s_eq_div : (Str.ofString "eq" = Str.ofString "div") = False := eq_false (by decide +kernel)
theorem s_div_ge : (Str.ofString "div" = Str.ofString "ge") = False := eq_false (by decide +kernel)
theorem s_div_eq : (Str.ofString "div" = Str.ofString "eq") = False := eq_false (by decide +kernel)
section
variable {P : Program} {w : World} {K : PySem.W.Frag} {mg : Str → Option Value} {base : Heap} {A : Ad}
def sp_multiply (K : PySem.W.Frag) : Sp := fun vs H Q _ => ∃ (f : Int) (a : Addr) (xs : List Int), vs = [.int f, .ref a] ∧ SqT K H a (xs.map V.int) ∧ xs.length ≤ 100 ∧ Sz 100 f ∧ (∀ x ∈ xs, Sz 100 x) ∧ ∀ H' t, Same H H' → SqT K H' t ((xs.map (f * ·)).map V.int) → Q (.ref t) H'
def sp_with_constant_added (K : PySem.W.Frag) : Sp := fun vs H Q _ => ∃ (a : Addr) (c : List Int) (d x : Int), vs = [.ref a, .int x] ∧ SqT K H a ((c ++ [d]).map V.int) ∧ c.length ≤ 900 ∧ ∀ H' t, Same H H' → SqT K H' t ((c ++ [d + x]).map V.int) → Q (.ref t) H'
def opp (c : List Int) (d : Int) : Ct := ⟨.ge, c.map (-1 * ·), -1 * d + -1⟩
/-- the failures of a constraint -/
def fls (t : Ct) : List Ct := match t.k with
  | .ge => [opp t.c t.d]
  | .eq => [⟨.ge, t.c, t.d + -1⟩, opp t.c t.d]
  | .div m => (List.range (m - 1).toNat).map fun i : Nat => ⟨.div m, t.c, t.d + -(1 + (i : Int))⟩
theorem ct_stay {K : PySem.W.Frag} : Stay (CtT K) := ⟨fun h s => h.same s, fun e ⟨b, h1, h2⟩ => ⟨b, sqT_upd e h1, sqT_upd e h2⟩⟩
def sp_failures (K : PySem.W.Frag) : Sp := fun vs H Q _ => ∃ (x : Addr) (t : Ct), vs = [.ref x] ∧ CtT K H x t ∧ t.k.ok ∧ t.c.length ≤ 90 ∧ (∀ x ∈ t.e, Sz 100 x) ∧ (match t.k with | .div m => m ≤ 900 | _ => True) ∧
  ∀ H' p rs, Same H H' → H' p = some (.lst (rsv rs)) → RsAll (CtT K) H' rs → rs.map (·.2) = fls t → Q (.ref p) H'
theorem dot_m1 (c p : List Int) : dot (c.map (-1 * ·)) p = - dot c p := by
  rw [← dot_neg]
  congr 1
  exact List.map_congr_left fun x _ => by omega
theorem div_any (m v : Int) (hm : 1 ≤ m) : (List.range (m - 1).toNat).any (fun i : Nat => decide ((v + -(1 + (i : Int))) % m = 0)) = !decide (v % m = 0) := by
  by_cases h : v % m = 0
  · rw [decide_eq_true h, Bool.not_true, List.any_eq_false]
    intro i hi
    rw [decide_eq_true_eq]
    intro e
    have hi' := List.mem_range.mp hi
    have e2 := Int.dvd_sub (Int.dvd_of_emod_eq_zero h) (Int.dvd_of_emod_eq_zero e)
    have e3 : v - (v + -(1 + (i : Int))) = 1 + (i : Int) := by omega
    rw [e3] at e2
    have := Int.le_of_dvd (by omega) e2
    omega
  · rw [decide_eq_false h, Bool.not_false, List.any_eq_true]
    have h1 := Int.emod_nonneg v (show m ≠ 0 by omega)
    have h2 := Int.emod_lt_of_pos v (show 0 < m by omega)
    refine ⟨(v % m - 1).toNat, List.mem_range.mpr (by omega), decide_eq_true ?_⟩
    have e : v + -(1 + (((v % m - 1).toNat : Nat) : Int)) = v - v % m := by omega
    rw [e]
    have e1 := Int.mul_ediv_add_emod v m
    exact Int.emod_eq_zero_of_dvd ⟨v / m, by omega⟩
theorem fls_any (t : Ct) (ok : t.k.ok) (p : List Int) : (fls t).any (·.at_ p) = !t.at_ p := by
  obtain ⟨k, c, d⟩ := t
  cases k with
  | ge =>
    simp only [fls, List.any_cons, List.any_nil, Bool.or_false, Ct.at_, opp, Kd.holds, dot_m1, ← decide_not]
    exact decide_eq_decide.mpr (by omega)
  | eq =>
    simp only [fls, List.any_cons, List.any_nil, Bool.or_false, Ct.at_, opp, Kd.holds, dot_m1, ← decide_not, ← Bool.decide_or]
    exact decide_eq_decide.mpr (by omega)
  | div m =>
    simp only [fls, List.any_map, Ct.at_, Kd.holds]
    rw [← div_any m (dot c p + d) ok]
    congr 1
    funext i
    simp only [Function.comp, Ct.at_, Kd.holds, Int.add_assoc]
theorem fls_len (t : Ct) : (fls t).length = match t.k with | .ge => 1 | .eq => 2 | .div m => (m - 1).toNat := by
  obtain ⟨k, c, d⟩ := t
  cases k <;> simp [fls]
theorem fls_wf (t u : Ct) (ok : t.k.ok) (h : u ∈ fls t) : u.k.ok ∧ u.c.length = t.c.length := by
  obtain ⟨k, c, d⟩ := t
  cases k with
  | ge =>
    simp only [fls, List.mem_singleton] at h
    subst h
    exact ⟨trivial, List.length_map ..⟩
  | eq =>
    simp only [fls, List.mem_cons, List.not_mem_nil, or_false] at h
    rcases h with rfl | rfl
    · exact ⟨trivial, rfl⟩
    · exact ⟨trivial, List.length_map ..⟩
  | div m =>
    simp only [fls, List.mem_map] at h
    obtain ⟨i, _, rfl⟩ := h
    exact ⟨ok, rfl⟩
theorem fls_sz (t u : Ct) (hc : ∀ x ∈ t.c, Sz 4 x) (h : u ∈ fls t) : ∀ x ∈ u.c, Sz 10 x := by
  obtain ⟨k, c, d⟩ := t
  have h1 : ∀ x ∈ c.map (-1 * ·), Sz 10 x := fun x hx => by
    obtain ⟨y, hy, rfl⟩ := List.mem_map.mp hx
    have h0 := hc y hy
    unfold Sz at *
    show (-1 * y).natAbs < 1024
    have : y.natAbs < 16 := h0
    omega
  have h2 : ∀ x ∈ c, Sz 10 x := fun x hx => (hc x hx).mono (by decide)
  cases k with
  | ge =>
    simp only [fls, List.mem_singleton] at h
    subst h
    exact h1
  | eq =>
    simp only [fls, List.mem_cons, List.not_mem_nil, or_false] at h
    rcases h with rfl | rfl
    · exact h2
    · exact h1
  | div m =>
    simp only [fls, List.mem_map] at h
    obtain ⟨i, _, rfl⟩ := h
    exact h2
theorem ok_multiply (T : Txt K mg A) : FnOk P w K mg base CX0 1 A.f_multiply A.d_multiply ["factor", "expression"] (sp_multiply K) := by
  refine T.F_multiply.ok sc_multiply (fun vs H Q E h => ?_) (fun cdv A' outer s H vs Q E hr h => ?_)
  · obtain ⟨f, a, xs, rfl, _⟩ := h
    rfl
  · obtain ⟨f, a, xs, rfl, hX, hn, hf, hx, q⟩ := h
    refine ⟨_, (pss_one (ps_ret (pe_callTy call_tuple_of (by rfl) T.b_tuple (by decide +kernel) (pa_cons (pe_lc (own := [("number", 2)]) (by rfl) sc_multiply.nd (pi_tup (pv 1)) (blkOk_by (own := [("number", 2)]) (N := ["factor", "expression", "number"]) (sc := defScope s_multiply) (by decide +kernel)) (fun _ _ _ _ _ => (pg_name (i := 2) sc_multiply.nd rfl (Or.inl rfl) (Or.inr rfl))) (fun _ _ _ _ _ => pts_nil) (fun _ _ _ _ _ => (pe_op op_mulX (pv 0) (pv 2)))) pa_nil)))), ?_⟩
    walk_at "wp"
    refine ⟨⟨_, hX⟩, fun D hD => lc_tupI (f * ·) hX hD (by omega) (fun x H' R hm s1 k => ?_) (fun H' s' e' => ?_)⟩
    · walk_at "wp"
      exact ⟨⟨_, _, hf, hx x hm, by decide⟩, k _ (Same.refl _)⟩
    · exact ⟨_, .inl ⟨SqL.of e', fun t nt => q _ _ (same_upd2 s' (s'.free nt)) (SqT.of upd_same)⟩⟩
theorem ok_with_constant_added (T : Txt K mg A) : FnOk P w K mg base CX0 1 A.f_with_constant_added A.d_with_constant_added ["expression", "number"] (sp_with_constant_added K) := by
  refine T.F_with_constant_added.ok sc_with_constant_added (fun vs H Q E h => ?_) (fun cdv A' outer s H vs Q E hr h => ?_)
  · obtain ⟨a, c, d, x, rfl, _⟩ := h
    rfl
  · obtain ⟨a, c, d, x, rfl, hE, hc, q⟩ := h
    refine ⟨_, (pss_one (ps_ret (pe_op op_catA (pe_slice sl_tupA (pv 0) po_none (po_some (pe_un un_neg pe_int))) (pe_tup (pa_cons (pe_op op_add (pe_ix ix_tup (pv 0) (pe_un un_neg pe_int) (fun _ _ => rfl)) (pv 1)) pa_nil))))), ?_⟩
    walk_at "wp"
    have hE' := hE
    rw [List.map_append] at hE'
    refine sl_init hE' fun H1 p1 s1 h1 => ?_
    refine ⟨_, sameT s1 hE, _, atI_lastI, d, rfl, by decide, fun p2 n2 => ?_⟩
    refine cat_sm (sameT (same_upd n2) h1) (SqT.of upd_same) (by rw [List.length_map]; simp; omega) fun H3 p3 s3 h3 => q _ p3 ((s1.trans (same_upd n2)).trans s3) ?_
    rw [List.map_append]
    exact h3
theorem ok_failures (T : Txt K mg A) : FnOk P w K mg base CX0 2 A.f_failures A.d_failures ["constraint"] (sp_failures K) := by
  have G_with_constant_added := ok_with_constant_added (P := P) (w := w) (base := base) T
  have G_multiply := ok_multiply (P := P) (w := w) (base := base) T
  refine T.F_failures.ok sc_failures (fun vs H Q E h => ?_) (fun cdv A' outer s H vs Q E hr h => ?_)
  · obtain ⟨x, t, rfl, _⟩ := h
    rfl
  · obtain ⟨x, t, rfl, hT, ok, hn, hz, hm, q⟩ := h
    refine ⟨_, (pss_cons (ps_set (i := 1) sc_failures.nd rfl (Or.inr rfl) (pe_ix ix_tup (pv 0) (pe_un un_neg pe_int) (fun _ _ => rfl))) 
    (pss_cons (ps_set (i := 2) sc_failures.nd rfl (Or.inl rfl) (pe_tup (pa_cons pe_str (pa_cons (pe_call G_with_constant_added hr (by rfl) T.g_with_constant_added T.F_with_constant_added.kp T.B_with_constant_added .nil pass0 (pa_cons (pe_call G_multiply hr (by rfl) T.g_multiply T.F_multiply.kp T.B_multiply .nil pass0 (pa_cons (pe_un un_neg pe_int) (pa_cons (pv 1) pa_nil))) (pa_cons (pe_un un_neg pe_int) pa_nil))) pa_nil)))) 
    (pss_cons (ps_if (pt_cmpR op_eq (pe_ix ix_tup (pv 0) pe_int (fun _ _ => rfl)) pe_str (nomark _)) 
      (pss_one (ps_ret (pe_lst (pa_cons (pv 2) pa_nil)))) pss_nil) 
    (pss_cons (ps_if (pt_cmpR op_eq (pe_ix ix_tup (pv 0) pe_int (fun _ _ => rfl)) pe_str (nomark _)) 
      (pss_one (ps_ret (pe_lst (pa_cons (pe_tup (pa_cons pe_str (pa_cons (pe_call G_with_constant_added hr (by rfl) T.g_with_constant_added T.F_with_constant_added.kp T.B_with_constant_added .nil pass0 (pa_cons (pv 1) (pa_cons (pe_un un_neg pe_int) pa_nil))) pa_nil))) (pa_cons (pv 2) pa_nil))))) pss_nil) 
    (pss_one (ps_ret (pe_lc (own := [("remainder", 3)]) (by rfl) sc_failures.nd (pi_range2 (by rfl) T.b_range (pa_cons pe_int (pa_cons (pe_ix ix_tup (pv 0) pe_int (fun _ _ => rfl)) pa_nil))) (blkOk_by (own := [("remainder", 3)]) (N := ["constraint", "expression", "below", "remainder"]) (sc := defScope s_failures) (by decide +kernel)) (fun _ _ _ _ _ => (pg_name (i := 3) sc_failures.nd rfl (Or.inl rfl) (Or.inr rfl))) (fun _ _ _ _ _ => pts_nil) (fun _ _ _ _ _ => (pe_tup (pa_cons pe_str (pa_cons (pe_ix (r := rIxT K) ix_tup (pv 0) pe_int (fun _ _ => rfl)) (pa_cons (pe_call G_with_constant_added hr (by rfl) T.g_with_constant_added T.F_with_constant_added.kp T.B_with_constant_added .nil pass0 (pa_cons (pv 1) (pa_cons (pe_un un_neg (pv 3)) pa_nil))) pa_nil)))))))))))), ?_⟩
    walk_at "wp"
    obtain ⟨a, h1, h2⟩ := hT
    obtain ⟨k, c, d⟩ := t
    refine ⟨_, h1, _, kv_last, ?_⟩
    refine ⟨-1, a, c ++ [d], rfl, h2, by rw [List.length_append]; exact Nat.succ_le_of_lt (by dsimp only at hn; omega), sz_one 100 (by decide), hz, fun H1 p1 s1 g1 => ?_⟩
    have eneg : (c ++ [d]).map (-1 * ·) = c.map (-1 * ·) ++ [-1 * d] := by rw [List.map_append]; rfl
    rw [eneg] at g1
    refine ⟨p1, c.map (-1 * ·), -1 * d, -1, rfl, g1, by rw [List.length_map]; dsimp only at hn; omega, fun H2 p2 s2 g2 => ⟨by decide, fun p3 n3 => ?_⟩⟩
    have s3 := same_upd (o := .tup [V.str (Str.ofString "ge"), V.ref p2]) n3
    have s03 := (s1.trans s2).trans s3
    have hb : CtT K (upd H2 p3 (.tup [V.str (Str.ofString "ge"), V.ref p2])) p3 (opp c d) := ⟨p2, SqT.of upd_same, sameT s3 g2⟩
    generalize upd H2 p3 (.tup [V.str (Str.ofString "ge"), V.ref p2]) = H3 at *
    refine ⟨_, sameT s03 h1, ?_⟩
    cases k with
    | ge =>
      refine ⟨_, rfl, rfl, ?_⟩
      walk_at "wp"
      refine ⟨by decide, fun p4 n4 => ?_⟩
      exact q _ p4 [(p3, opp c d)] (s03.trans (same_upd n4)) upd_same (fun r hr => by rw [List.mem_singleton.mp hr]; exact hb.same (same_upd n4)) rfl
    | eq =>
      refine ⟨_, rfl, rfl, ?_⟩
      walk_at "wp"
      refine ⟨_, sameT s03 h1, _, rfl, rfl, ?_⟩
      walk_at "wp"
      refine ⟨a, c, d, -1, rfl, sameT s03 h2, by dsimp only at hn; omega, fun H4 p4 s4 g4 => ⟨by decide, fun p5 n5 => ⟨by decide, fun p6 n6 => ?_⟩⟩⟩
      have s5 := same_upd (o := .tup [V.str (Str.ofString "ge"), V.ref p4]) n5
      have s6 := same_upd (o := .lst [V.ref p5, V.ref p3]) n6
      refine q _ p6 [(p5, ⟨.ge, c, d + -1⟩), (p3, opp c d)] (s03.trans ((s4.trans s5).trans s6)) upd_same (fun r hr => ?_) rfl
      simp only [List.mem_cons, List.not_mem_nil, or_false] at hr
      rcases hr with rfl | rfl
      · exact CtT.same ⟨p4, SqT.of upd_same, sameT s5 g4⟩ s6
      · exact hb.same ((s4.trans s5).trans s6)
    | div m =>
      refine ⟨_, rfl, rfl, ?_⟩
      walk_at "wp"
      have h1' := sameT s03 h1
      refine ⟨_, h1', _, rfl, rfl, ?_⟩
      walk_at "wp"
      refine ⟨_, h1', _, rfl, ?_⟩
      have hm1 : 1 ≤ m := ok
      have hm9 : m ≤ 900 := hm
      refine ⟨m, rfl, by omega, by omega, by omega, by omega, fun D hD => ?_⟩
      refine lc_rs ct_stay walk_range (fls ⟨.div m, c, d⟩) hD (by omega) (by simp [fls]) (fun _ _ => trivial) yfn_same (fun i z y H4 H5 R hi hy s4 yy k => ?_) (fun H4 rs s4 e4 a4 r4 => q _ D rs (s03.trans s4) e4 a4 r4)
      obtain ⟨rfl, rfl⟩ := yy
      simp only [fls, List.getElem?_map, List.getElem?_range hi, Option.map_some, Option.some.injEq] at hy
      subst hy
      walk_at "wp"
      refine ⟨_, sameT s4 h1', _, rfl, a, c, d, -(1 + (i : Int)), rfl, sameT (s03.trans s4) h2, by dsimp only at hn; omega, fun H6 p6 s6 g6 => ⟨by decide, fun p7 n7 => ?_⟩⟩
      have s7 := same_upd (o := .tup [V.str (Str.ofString "div"), V.int m, V.ref p6]) n7
      exact k _ _ (s6.trans s7) ⟨p6, SqT.of upd_same, sameT s7 g6⟩
local macro_rules | `(tactic| walk_at "wp") => `(tactic| simp only [tSeq, tAsg, gName, gTup, gCons, gNil, tVar, tC, tOp, tUn, rI, rI0, rU, tCB, tCons, tNil, tIfS, tRet, tRetN, tNext, tNever, test_eq, tB, tTup, tLst, tCall, tIf, tAndV, tOrV, tNotV, tNot, tAnd, tOr, rEq, rNe, scal_ii, scal_ss, scal_bb, dec_ii, dec_ss, dec_bb, for_eq, lc_eq, while_eq, tDrop, tYes, iList, iTup, iStr, iRng1, iRng2, RZ.iZipA, L2.start, rIxL, rIxT, rIxS, rSlS, cxK, tSl, tPart, tNoPart, tBM, tBM0, rAppend, rExtend, rRepS, rGcd, s_ge_eq, s_ge_div, s_eq_ge, s_eq_div, s_div_ge, s_div_eq, gSub, rSetL, tAug, ipI, rAdd, rSub, tM1, tM0,
  List.map_cons, List.map_nil, List.length_cons, List.length_nil, List.cons_append, List.nil_append, List.append_nil, List.getElem?_cons_succ, List.getElem?_cons_zero, List.set_cons_succ, List.set_cons_zero, Nat.reduceAdd, Nat.reduceSub, List.replicate_succ, List.replicate_zero, wipe,
  Option.some.injEq, V.int.injEq, V.str.injEq, sgn_eq, V.ref.injEq, V.bl.injEq, exists_eq_left, exists_eq_left', exists_and_left, exists_eq_right, List.cons.injEq, and_true, true_and, ex_bl, ex_int, exists_const, Nat.zero_add, Int.toNat_natCast, Int.zero_add, and_assoc, reduceCtorEq, false_and, and_false, exists_false, or_false, false_or, eq_self, decide_true, decide_false, ite_true, ite_false, if_true, if_false, Bool.false_eq_true, Bool.not_true, Bool.not_false, ↓reduceIte])
def kvv : Kd → V → List V
  | .ge, a => [.str "ge", a]
  | .eq, a => [.str "eq", a]
  | .div m, a => [.str "div", .int m, a]
/-- a constraint that a law draws -/
structure Gd (n : Nat) (t : Ct) : Prop where
  ok : t.k.ok
  len : t.c.length = n
  cs : ∀ x ∈ t.c, Sz 4 x
  ds : Sz 80 t.d
  ms : match t.k with | .div m => Sz 4 m | _ => True
/-- a point that a law draws -/
structure Pt (n : Nat) (p : List Int) : Prop where
  len : p.length = n
  ps : ∀ x ∈ p, Sz 5 x
theorem Gd.nz {n : Nat} {t : Ct} (g : Gd n t) (hn : n ≤ 90) : Nz t := by
  refine ⟨by rw [g.len]; exact hn, fun x hx => ?_, ?_⟩
  · rcases List.mem_append.mp hx with h | h
    · exact (g.cs x h).mono (by decide)
    · rw [List.mem_singleton.mp h]
      exact g.ds.mono (by decide)
  · have := g.ms
    cases hk : t.k with
    | div m => rw [hk] at this; exact Sz.mono this (by decide)
    | ge => trivial
    | eq => trivial
def sp_law_cell (K : PySem.W.Frag) : Sp := fun vs H Q _ => ∃ (l : Addr) (ns : List Int) (j : Nat), vs = [V.ref l, V.int (j : Nat)] ∧ SqL K H l (ns.map V.int) ∧ Q (.int (L2.cellOf ns j)) H
def sp_law_draws (K : PySem.W.Frag) : Sp := fun vs H Q _ => ∃ (c : Int) (n : Nat), vs = [.int c, .int (n : Int)] ∧ Sz 1048577 c ∧ n ≤ 100 ∧ ∀ H' t (ds : List Int), Same H H' → H' t = some (.lst (ds.map V.int)) → H t = none → ds.length = n → Q (.ref t) H'
def sp_law_value (K : PySem.W.Frag) : Sp := fun vs H Q _ => ∃ (a b : Addr) (c : List Int) (d : Int) (p : List Int), vs = [.ref a, .ref b] ∧ SqT K H a ((c ++ [d]).map V.int) ∧ SqT K H b (p.map V.int) ∧ c.length = p.length ∧ p.length ≤ 90 ∧ (∀ x ∈ c, Sz 100000 x) ∧ (∀ x ∈ p, Sz 100000 x) ∧
  ∀ H', Same H H' → Q (.int (dot c p + d)) H'
def sp_law_holds (K : PySem.W.Frag) : Sp := fun vs H Q _ => ∃ (x b : Addr) (t : Ct) (p : List Int), vs = [.ref x, .ref b] ∧ CtT K H x t ∧ t.k.ok ∧ SqT K H b (p.map V.int) ∧ t.c.length = p.length ∧ p.length ≤ 90 ∧ (∀ x ∈ t.c, Sz 100000 x) ∧ (∀ x ∈ p, Sz 100000 x) ∧
  ∀ H', Same H H' → Q (.bl (t.at_ p)) H'
def sp_law_is_integer (K : PySem.W.Frag) : Sp := fun vs H Q _ => ∃ i : Int, vs = [.int i] ∧ Q (.bl true) H
def sp_law_is_constraint (K : PySem.W.Frag) : Sp := fun vs H Q _ => ∃ (x : Addr) (t : Ct) (n : Nat), vs = [.ref x, .int (n : Int)] ∧ CtT K H x t ∧ t.k.ok ∧ t.c.length = n ∧ ∀ H', Same H H' → Q (.bl true) H'
def sp_law_point (K : PySem.W.Frag) : Sp := fun vs H Q _ => ∃ (c : Int) (n : Nat), vs = [.int c, .int (n : Int)] ∧ Sz 1048577 c ∧ n ≤ 90 ∧ ∀ H' t (p : List Int), Same H H' → SqT K H' t (p.map V.int) → Pt n p → Q (.ref t) H'
def sp_law_constraint (K : PySem.W.Frag) : Sp := fun vs H Q _ => ∃ (c : Int) (b : Addr) (p : List Int) (n : Nat), vs = [.int c, .ref b] ∧ Sz 1048577 c ∧ SqT K H b (p.map V.int) ∧ Pt n p ∧ n ≤ 40 ∧ ∀ H' x (t : Ct), Same H H' → CtT K H' x t → Gd n t → Q (.ref x) H'
theorem ok_law_cell (T : Txt K mg A) : FnOk P w K mg base CX0 1 A.f_law_cell A.d_law_cell ["script", "k"] (sp_law_cell K) := by
  refine T.F_law_cell.ok sc_law_cell (fun vs H Q E h => ?_) (fun cdv A' outer s H vs Q E hr h => ?_)
  · obtain ⟨a, ns, j, rfl, _⟩ := h
    rfl
  · obtain ⟨a, ns, j, rfl, hS, q⟩ := h
    refine ⟨_, (pss_cons (ps_if (pt_cmpR op_lt (pv 1) (pe_callB call_len_seq (by rfl) T.b_len (by decide +kernel) (pa_cons (pv 0) pa_nil)) (nomark _)) 
      (pss_one (ps_ret (pe_ix ix_list (pv 0) (pv 1) (fun _ _ => rfl)))) pss_nil) 
    (pss_one (ps_ret pe_int))), ?_⟩
    walk_at "wp"
    refine ⟨_, .inl hS, ?_⟩
    by_cases hj : j < ns.length
    · rw [if_pos (by rw [List.length_map]; exact decide_eq_true (by omega))]
      exact ⟨_, hS, _, atI_cell hj, q⟩
    · rw [if_neg (by rw [List.length_map, decide_eq_true_eq]; omega)]
      rw [cell_out hj] at q
      exact q
theorem ok_law_draws (T : Txt K mg A) : FnOk P w K mg base CX0 1 A.f_law_draws A.d_law_draws ["cell", "count"] (sp_law_draws K) := by
  refine T.F_law_draws.ok sc_law_draws (fun vs H Q E h => ?_) (fun cdv A' outer s H vs Q E hr h => ?_)
  · obtain ⟨c, n, rfl, _⟩ := h
    rfl
  · obtain ⟨c, n, rfl, hc, hn, q⟩ := h
    refine ⟨_, (pss_cons (ps_set (i := 2) sc_law_draws.nd rfl (Or.inl rfl) (pe_lst pa_nil)) 
    (pss_cons (ps_set (i := 3) sc_law_draws.nd rfl (Or.inl rfl) (pe_callTy call_intI (by rfl) T.b_int (by decide +kernel) (pa_cons (pv 0) pa_nil))) 
    (pss_cons (ps_for PassesOwn.never rfl (pi_range1 (by rfl) T.b_range (pa_cons (pv 1) pa_nil)) (pg_name (i := 4) sc_law_draws.nd rfl (Or.inl rfl)) 
      (pss_cons (ps_set (i := 5) sc_law_draws.nd rfl (Or.inl rfl) (pe_op op_mod (pe_callTy call_intI (by rfl) T.b_int (by decide +kernel) (pa_cons (pe_op op_add (pe_op op_add (pe_op op_mulX (pv 0) pe_int) (pe_op op_mulX (pv 4) pe_int)) pe_int) pa_nil)) pe_int)) 
      (pss_one (ps_if (pt_cmpR op_ge (pv 0) (pe_op op_pow pe_int pe_int) (nomark _)) 
        (pss_cons (ps_expr (pe_bm PySem.F.plainAttrs_list PySem.F.slot_list_append PySem.F.type_list_append mt_append (pv 2) (pa_cons (pe_op op_mod (pv 3) pe_int) pa_nil))) 
        (pss_one (ps_set (i := 3) sc_law_draws.nd rfl (Or.inl rfl) (pe_op op_fdiv (pv 3) pe_int)))) 
        (pss_one (ps_expr (pe_bm PySem.F.plainAttrs_list PySem.F.slot_list_append PySem.F.type_list_append mt_append (pv 2) (pa_cons (pe_op op_fdiv (pe_op op_mod (pe_callTy call_intI (by rfl) T.b_int (by decide +kernel) (pa_cons (pe_op op_add (pe_op op_mulX (pv 5) (pv 5)) (pe_op op_mulX (pv 5) pe_int)) pa_nil)) pe_int) pe_int) pa_nil)))))))) 
    (pss_one (ps_ret (pv 2)))))), ?_⟩
    walk_at "wp"
    refine ⟨Nat.zero_le _, fun p np => ⟨by omega, by omega, ?_⟩⟩
    obtain ⟨Pv, hPv⟩ : ∃ Pv : Nat → St → Hp → Prop, ∀ i σ H', Pv i σ H' ↔ ∃ (r : Int) (ds : List Int) (v4 v5 : Option V), σ = [some (V.int c), some (V.int (n : Int)), some (V.ref p), some (V.int r), v4, v5] ∧ Same H H' ∧ H' p = some (.lst (ds.map V.int)) ∧ ds.length = i := ⟨_, fun _ _ _ => Iff.rfl⟩
    refine loop_it (walk_range0 (n := n)) Pv ((hPv _ _ _).mpr ⟨_, [], none, none, rfl, same_upd np, upd_same, rfl⟩) (fun _ _ _ _ _ => trivial) ?_ ?_
    · intro i x σ H1 H2 hi pw y
      obtain ⟨r, ds, v4, v5, rfl, s1, e1, hl⟩ := (hPv _ _ _).mp pw
      obtain ⟨rfl, rfl⟩ := y
      walk_at "wp"
      have sz : (ds.map V.int).length < sizeLine := small1000 (by rw [List.length_map]; omega)
      have ty : tyV K "list" (V.ref p) H2 := .inl ⟨rfl, _, SqL.of e1⟩
      have fin : ∀ (r' : Int) (v4' v5' : Option V) (z : Int), Pv (i + 1) [some (V.int c), some (V.int (n : Int)), some (V.ref p), some (V.int r'), v4', v5'] (upd H2 p (.lst (ds.map V.int ++ [V.int z]))) := fun r' v4' v5' z =>
        (hPv _ _ _).mpr ⟨r', ds ++ [z], v4', v5', rfl, fun b o e => by rw [upd_ne (ne_of_none e np)]; exact s1 _ _ e, by rw [upd_same, List.map_append]; rfl, by rw [List.length_append, List.length_singleton]; omega⟩
      have hi7 : Sz 7 ((i : Nat) : Int) := by
        unfold Sz
        rw [Int.natAbs_natCast]
        show i < 128
        omega
      have szk : ∀ z : Int, 0 ≤ z → z < 2147483648 → Sz 31 z := fun z z0 z1 => by
        unfold Sz
        show z.natAbs < 2147483648
        omega
      refine ⟨⟨_, _, hc, szk 48271 (by decide) (by decide), by decide⟩, ⟨_, _, hi7, szk 69621 (by decide) (by decide), by decide⟩, ?_⟩
      have m0 := Int.emod_nonneg (c * 48271 + (i : Int) * 69621 + 1) (show (2147483647 : Int) ≠ 0 by decide)
      have m1 := Int.emod_lt_of_pos (c * 48271 + (i : Int) * 69621 + 1) (show (0 : Int) < 2147483647 by decide)
      generalize (c * 48271 + (i : Int) * 69621 + 1) % 2147483647 = mx at *
      have hm := szk mx m0 (by omega)
      refine ⟨by decide, ⟨by decide, by decide, by decide⟩, ?_⟩
      split
      · exact ⟨ty, by decide, _, e1, sz, ⟨by decide, by decide⟩, fin _ _ _ _⟩
      · refine ⟨ty, ⟨_, _, hm, hm, by decide⟩, ⟨_, _, hm, szk 40692 (by decide) (by decide), by decide⟩, by decide, ⟨by decide, by decide⟩, _, e1, sz, fin _ _ _ _⟩
    · intro σ H1 pw
      obtain ⟨r, ds, v4, v5, rfl, s1, e1, hl⟩ := (hPv _ _ _).mp pw
      walk_at "wp"
      exact q _ _ ds s1 e1 np hl
theorem ok_law_value (T : Txt K mg A) : FnOk P w K mg base CX0 1 A.f_law_value A.d_law_value ["expression", "point"] (sp_law_value K) := by
  refine T.F_law_value.ok sc_law_value (fun vs H Q E h => ?_) (fun cdv A' outer s H vs Q E hr h => ?_)
  · obtain ⟨a, b, c, d, p, rfl, _⟩ := h
    rfl
  · obtain ⟨a, b, c, d, p, rfl, hE, hB, hl, hn, hc, hp, q⟩ := h
    refine ⟨_, (pss_cons (ps_set (i := 2) sc_law_value.nd rfl (Or.inl rfl) (pe_ix ix_tup (pv 0) (pe_un un_neg pe_int) (fun _ _ => rfl))) 
    (pss_cons (ps_for PassesOwn.never rfl (RZ.pi_zipA (by rfl) T.b_zip (pa_cons (pv 0) (pa_cons (pv 1) pa_nil))) (pg_tup rfl (pgs_cons (pg_name (i := 3) sc_law_value.nd rfl (Or.inl rfl)) (pgs_cons (pg_name (i := 4) sc_law_value.nd rfl (Or.inl rfl)) pgs_nil))) 
      (pss_one (ps_set (i := 2) sc_law_value.nd rfl (Or.inl rfl) (pe_op op_add (pv 2) (pe_op op_mulX (pv 3) (pv 4)))))) 
    (pss_one (ps_ret (pv 2))))), ?_⟩
    walk_at "wp"
    refine ⟨_, hE, _, atI_lastI, _, _, .inr ⟨hE, hB, ?_⟩⟩
    refine loop_it (walk_zipT (n := p.length) (by rw [List.length_map, List.length_map, List.length_append, List.length_singleton, hl]; omega)) (fun i σ H' => Same H H' ∧ ∃ v3 v4, σ = [some (V.ref a), some (V.ref b), some (V.int (dotk c p i + d)), v3, v4]) ⟨Same.refl _, _, _, by rw [dotk, Int.zero_add]⟩ (fun i σ H' _ p => ⟨sameT p.1 hE, sameT p.1 hB⟩) ?_ ?_
    · rintro i x σ H1 H2 hi ⟨s1, v3, v4, rfl⟩ ⟨t, x, y, rfl, nt, rfl, e1, e2⟩
      cases e1.symm.trans (getE (by omega))
      cases e2.symm.trans (getP hi)
      walk_at "wp"
      refine ⟨_, .inl (.inl upd_same), ?_⟩
      walk_at "wp"
      refine ⟨by rfl, ⟨_, _, hc _ (memD (by omega)), hp _ (memD hi), by decide⟩, s1.trans (same_upd nt), ?_, _, rfl⟩
      rw [dotk]
      omega
    · rintro σ H1 ⟨s1, v3, v4, rfl⟩
      rw [dotk_eq _ _ hl]
      walk_at "wp"
      exact q _ s1
theorem ok_law_holds (T : Txt K mg A) : FnOk P w K mg base CX0 2 A.f_law_holds A.d_law_holds ["constraint", "point"] (sp_law_holds K) := by
  have G_law_value := ok_law_value (P := P) (w := w) (base := base) T
  refine T.F_law_holds.ok sc_law_holds (fun vs H Q E h => ?_) (fun cdv A' outer s H vs Q E hr h => ?_)
  · obtain ⟨x, b, t, p, rfl, _⟩ := h
    rfl
  · obtain ⟨x, b, t, p, rfl, hT, ok, hB, hl, hn, hc, hp, q⟩ := h
    refine ⟨_, (pss_cons (ps_set (i := 2) sc_law_holds.nd rfl (Or.inl rfl) (pe_call G_law_value hr (by rfl) T.g_law_value T.F_law_value.kp T.B_law_value .nil pass0 (pa_cons (pe_ix ix_tup (pv 0) (pe_un un_neg pe_int) (fun _ _ => rfl)) (pa_cons (pv 1) pa_nil)))) 
    (pss_cons (ps_if (pt_cmpR op_eq (pe_ix ix_tup (pv 0) pe_int (fun _ _ => rfl)) pe_str (nomark _)) 
      (pss_one (ps_ret (pe_cmpR op_ge (pv 2) pe_int (nomark _)))) pss_nil) 
    (pss_cons (ps_if (pt_cmpR op_eq (pe_ix ix_tup (pv 0) pe_int (fun _ _ => rfl)) pe_str (nomark _)) 
      (pss_one (ps_ret (pe_cmpR op_eq (pv 2) pe_int (nomark _)))) pss_nil) 
    (pss_one (ps_ret (pe_cmpR op_eq (pe_op op_mod (pe_callTy call_intI (by rfl) T.b_int (by decide +kernel) (pa_cons (pv 2) pa_nil)) (pe_ix ix_tup (pv 0) pe_int (fun _ _ => rfl))) pe_int (nomark _))))))), ?_⟩
    walk_at "wp"
    obtain ⟨a, h1, h2⟩ := hT
    refine ⟨_, h1, _, kv_last, a, b, t.c, t.d, p, rfl, h2, hB, hl, hn, hc, hp, fun H' s' => ?_⟩
    have h1' := sameT s' h1
    have q' := q H' s'
    refine ⟨_, h1', ?_⟩
    obtain ⟨k, c, d⟩ := t
    cases k with
    | ge =>
      refine ⟨_, rfl, rfl, ?_⟩
      walk_at "wp"
      exact q'
    | eq =>
      refine ⟨_, rfl, rfl, ?_⟩
      walk_at "wp"
      refine ⟨_, h1', _, rfl, rfl, ?_⟩
      walk_at "wp"
      exact q'
    | div m =>
      refine ⟨_, rfl, rfl, ?_⟩
      walk_at "wp"
      refine ⟨_, h1', _, rfl, rfl, ?_⟩
      walk_at "wp"
      have h3 : 1 ≤ m := ok
      refine ⟨_, h1', _, rfl, _, rfl, by omega, ?_⟩
      exact q'
theorem ok_law_is_integer (T : Txt K mg A) : FnOk P w K mg base CX0 1 A.f_law_is_integer A.d_law_is_integer ["value"] (sp_law_is_integer K) := by
  refine T.F_law_is_integer.ok sc_law_is_integer (fun vs H Q E h => ?_) (fun cdv A' outer s H vs Q E hr h => ?_)
  · obtain ⟨i, rfl, _⟩ := h
    rfl
  · obtain ⟨i, rfl, q⟩ := h
    refine ⟨_, (pss_one (ps_ret (pe_and (pe_callB call_isi (by rfl) T.b_isinstance (by decide +kernel) (pa_cons (pv 0) (pa_cons (pe_bltn (v := .ty "int") (by rfl) T.b_int (by decide +kernel) rfl) pa_nil))) (pe_one (pe_not (pe_callB call_isi (by rfl) T.b_isinstance (by decide +kernel) (pa_cons (pv 0) (pa_cons (pe_bltn (v := .ty "bool") (by rfl) T.b_bool (by decide +kernel) rfl) pa_nil)))))))), ?_⟩
    walk_at "wp"
    refine isi ty_int (r := true) (by decide +kernel) ?_
    walk_at "wp"
    refine isi ty_int (r := false) (by decide +kernel) ?_
    walk_at "wp"
    exact q
theorem ok_law_is_constraint (T : Txt K mg A) : FnOk P w K mg base CX0 2 A.f_law_is_constraint A.d_law_is_constraint ["constraint", "variables"] (sp_law_is_constraint K) := by
  have G_law_is_integer := ok_law_is_integer (P := P) (w := w) (base := base) T
  refine T.F_law_is_constraint.ok sc_law_is_constraint (fun vs H Q E h => ?_) (fun cdv A' outer s H vs Q E hr h => ?_)
  · obtain ⟨x, t, n, rfl, _⟩ := h
    rfl
  · obtain ⟨x, t, n, rfl, hT, ok, hl, q⟩ := h
    refine ⟨_, (pss_cons (ps_if (PW.pt (pw_or (pt_not (pt_val (pe_callB call_isi (by rfl) T.b_isinstance (by decide +kernel) (pa_cons (pv 0) (pa_cons (pe_bltn (v := .ty "tuple") (by rfl) T.b_tuple (by decide +kernel) rfl) pa_nil))))) (pw_or1 (pt_cmpR op_lt (pe_callB call_len_seq (by rfl) T.b_len (by decide +kernel) (pa_cons (pv 0) pa_nil)) pe_int (nomark _))))) 
      (pss_one (ps_ret pe_bl)) pss_nil) 
    (pss_cons (ps_set (i := 2) sc_law_is_constraint.nd rfl (Or.inl rfl) (pe_ix ix_tup (pv 0) (pe_un un_neg pe_int) (fun _ _ => rfl))) 
    (pss_cons (ps_if (PW.pt (pw_or (pt_not (pt_val (pe_callB call_isi (by rfl) T.b_isinstance (by decide +kernel) (pa_cons (pv 2) (pa_cons (pe_bltn (v := .ty "tuple") (by rfl) T.b_tuple (by decide +kernel) rfl) pa_nil))))) (pw_or1 (pt_cmpR op_ne (pe_callB call_len_seq (by rfl) T.b_len (by decide +kernel) (pa_cons (pv 2) pa_nil)) (pe_op op_add (pv 1) pe_int) (nomark _))))) 
      (pss_one (ps_ret pe_bl)) pss_nil) 
    (pss_cons (ps_for PassesOwn.never rfl (pi_tup (pv 2)) (pg_name (i := 3) sc_law_is_constraint.nd rfl (Or.inl rfl)) 
      (pss_one (ps_if (pt_not (pt_val (pe_call G_law_is_integer hr (by rfl) T.g_law_is_integer T.F_law_is_integer.kp T.B_law_is_integer .nil pass0 (pa_cons (pv 3) pa_nil)))) 
        (pss_one (ps_ret pe_bl)) pss_nil))) 
    (pss_cons (ps_if (pt_cmpR op_eq (pe_ix ix_tup (pv 0) pe_int (fun _ _ => rfl)) pe_str (nomark _)) 
      (pss_one (ps_ret (pe_and (pe_cmpR op_eq (pe_callB call_len_seq (by rfl) T.b_len (by decide +kernel) (pa_cons (pv 0) pa_nil)) pe_int (nomark _)) (pe_and (pe_call G_law_is_integer hr (by rfl) T.g_law_is_integer T.F_law_is_integer.kp T.B_law_is_integer .nil pass0 (pa_cons (pe_ix ix_tup (pv 0) pe_int (fun _ _ => rfl)) pa_nil)) (pe_one (pe_cmpR op_ge (pe_ix ix_tup (pv 0) pe_int (fun _ _ => rfl)) pe_int (nomark _))))))) pss_nil) 
    (pss_one (ps_ret (pe_and (pe_cmpR op_eq (pe_callB call_len_seq (by rfl) T.b_len (by decide +kernel) (pa_cons (pv 0) pa_nil)) pe_int (nomark _)) (pe_one (pe_cmpR op_in_seq (pe_ix ix_tup (pv 0) pe_int (fun _ _ => rfl)) (pe_tup (pa_cons pe_str (pa_cons pe_str pa_nil))) (by rfl))))))))))), ?_⟩
    walk_at "wp"
    obtain ⟨a, h1, h2⟩ := hT
    refine isi (ty_tup h1) (r := true) (by decide +kernel) ?_
    walk_at "wp"
    refine ⟨_, .inr h1, ?_⟩
    rw [if_neg (by rw [decide_eq_true_eq]; cases t.k <;> (show ¬ ((_ : Nat) : Int) < 2; simp [Kd.v]))]
    refine ⟨_, h1, _, kv_last, isi (ty_tup h2) (r := true) (by decide +kernel) ?_⟩
    walk_at "wp"
    refine ⟨_, .inr h2, ?_⟩
    rw [if_neg (by rw [e_len, hl, decide_eq_true (by omega)]; decide)]
    refine ⟨⟨_, h2⟩, ?_⟩
    refine loop_it (walk_tup (xs := t.e.map V.int)) (fun i σ H' => H' = H ∧ ∃ v, σ = [some (V.ref x), some (V.int (n : Int)), some (V.ref a), v]) ⟨rfl, _, rfl⟩ (fun _ _ _ _ p => by rw [p.1]; exact h2) ?_ ?_
    · rintro i z σ H1 H2 hi ⟨rfl, v, rfl⟩ y
      obtain ⟨rfl, e⟩ := yat_at y
      rw [List.length_map] at hi
      rw [List.getElem?_map, List.getElem?_eq_getElem hi] at e
      cases e
      walk_at "wp"
      refine ⟨_, rfl, ?_⟩
      walk_at "wp"
      exact ⟨_, rfl⟩
    · rintro σ H1 ⟨rfl, v, rfl⟩
      obtain ⟨k, c, d⟩ := t
      cases k with
      | ge =>
        walk_at "wp"
        refine ⟨_, h1, _, rfl, rfl, ?_⟩
        walk_at "wp"
        refine ⟨_, .inr h1, ?_⟩
        rw [if_pos (by rfl)]
        refine ⟨_, h1, _, rfl, by decide, fun p np => ?_⟩
        exact rin ["ge", "eq"] (v := "ge") (.inr (SqT.of upd_same)) (by rw [decide_eq_true (by decide +kernel)]; exact q _ (same_upd np))
      | eq =>
        walk_at "wp"
        refine ⟨_, h1, _, rfl, rfl, ?_⟩
        walk_at "wp"
        refine ⟨_, .inr h1, ?_⟩
        rw [if_pos (by rfl)]
        refine ⟨_, h1, _, rfl, by decide, fun p np => ?_⟩
        exact rin ["ge", "eq"] (v := "eq") (.inr (SqT.of upd_same)) (by rw [decide_eq_true (by decide +kernel)]; exact q _ (same_upd np))
      | div m =>
        walk_at "wp"
        refine ⟨_, h1, _, rfl, rfl, ?_⟩
        walk_at "wp"
        refine ⟨_, .inr h1, ?_⟩
        rw [if_pos (by rfl)]
        refine ⟨_, h1, _, rfl, m, rfl, ?_⟩
        walk_at "wp"
        refine ⟨_, h1, _, rfl, m, rfl, ?_⟩
        rw [decide_eq_true (show 1 ≤ m from ok)]
        exact q _ (Same.refl _)
theorem ok_law_point (T : Txt K mg A) : FnOk P w K mg base CX0 2 A.f_law_point A.d_law_point ["cell", "variables"] (sp_law_point K) := by
  have G_law_draws := ok_law_draws (P := P) (w := w) (base := base) T
  refine T.F_law_point.ok sc_law_point (fun vs H Q E h => ?_) (fun cdv A' outer s H vs Q E hr h => ?_)
  · obtain ⟨c, n, rfl, _⟩ := h
    rfl
  · obtain ⟨c, n, rfl, hc, hn, q⟩ := h
    refine ⟨_, (pss_one (ps_ret (pe_callTy call_tuple_of (by rfl) T.b_tuple (by decide +kernel) (pa_cons (pe_lc (own := [("number", 2)]) (by rfl) sc_law_point.nd (pi_list (pe_call G_law_draws hr (by rfl) T.g_law_draws T.F_law_draws.kp T.B_law_draws .nil pass0 (pa_cons (pv 0) (pa_cons (pv 1) pa_nil)))) (blkOk_by (own := [("number", 2)]) (N := ["cell", "variables", "number"]) (sc := defScope s_law_point) (by decide +kernel)) (fun _ _ _ _ _ => (pg_name (i := 2) sc_law_point.nd rfl (Or.inl rfl) (Or.inr rfl))) (fun _ _ _ _ _ => pts_nil) (fun _ _ _ _ _ => (pe_op op_sub (pe_op op_mod (pv 2) pe_int) pe_int))) pa_nil)))), ?_⟩
    walk_at "wp"
    refine ⟨c, n, rfl, hc, by omega, fun H1 l ds s1 e1 nl hl => ⟨l, rfl, ⟨_, SqL.of e1⟩, fun D hD => ?_⟩⟩
    refine lc_lstI (fun x => x % 19 - 9) (SqL.of e1) hD (by omega) (fun x H' R hx s3 k1 => ?_) (fun H' s' e' => ?_)
    · walk_at "wp"
      exact ⟨by decide, k1 _ (Same.refl _)⟩
    · refine ⟨_, .inl ⟨SqL.of e', fun t nt => q _ _ _ ((s1.trans s').trans (same_upd nt)) (SqT.of upd_same) ⟨by rw [List.length_map, hl], fun x hx => ?_⟩⟩⟩
      obtain ⟨y, _, rfl⟩ := List.mem_map.mp hx
      unfold Sz
      omega
theorem ok_law_constraint (T : Txt K mg A) : FnOk P w K mg base CX0 2 A.f_law_constraint A.d_law_constraint ["cell", "point"] (sp_law_constraint K) := by
  have G_law_draws := ok_law_draws (P := P) (w := w) (base := base) T
  have G_law_value := ok_law_value (P := P) (w := w) (base := base) T
  refine T.F_law_constraint.ok sc_law_constraint (fun vs H Q E h => ?_) (fun cdv A' outer s H vs Q E hr h => ?_)
  · obtain ⟨c, b, p, n, rfl, _⟩ := h
    rfl
  · obtain ⟨c, b, p, n, rfl, hc, hB, hP, hn, q⟩ := h
    have ⟨R, hR, kR⟩ : ∃ R, PSs (cxOf CX0 P w K mg base ["cell", "point", "numbers", "size", "coefficients", "number", "value", "kind", "modulus", "slack", "constant"] "_law_constraint" (defScope s_law_constraint) A.f_law_constraint cdv A' outer s H E).nox ((defBody s_law_constraint).drop 6) R ∧
        ∀ (H1 : Hp) (nl ca : Addr) (ds cs : List Int) (v m : Int) (kk : Str) (v3 v5 v9 v10 : Option V), Same H H1 → H1 nl = some (.lst (ds.map V.int)) → ds.length = n + 4 → SqT K H1 ca (cs.map V.int) → cs.length = n → (∀ x ∈ cs, Sz 4 x) → Sz 70 v → 1 ≤ m → m ≤ 6 →
          (kk = Str.ofString "ge" ∨ kk = Str.ofString "eq" ∨ kk = Str.ofString "div") →
          R { nx := fun _ H' => Q .non H', rt := Q } [some (V.int c), some (V.ref b), some (V.ref nl), v3, some (V.ref ca), v5, some (V.int v), some (V.str kk), some (V.int m), v9, v10] H1 := by
      refine ⟨_, (pss_cons (ps_set (i := 9) sc_law_constraint.nd rfl (Or.inl rfl) (pe_op op_mod (pe_ix ix_list (pv 2) pe_int (fun _ _ => rfl)) pe_int)) 
    (pss_cons (ps_if (pt_cmpR op_eq (pv 7) pe_str (nomark _)) 
      (pss_one (ps_set (i := 9) sc_law_constraint.nd rfl (Or.inl rfl) pe_int)) pss_nil) 
    (pss_cons (ps_if (pt_cmpR op_eq (pv 7) pe_str (nomark _)) 
      (pss_one (ps_set (i := 9) sc_law_constraint.nd rfl (Or.inl rfl) (pe_op op_mulX (pv 8) (pe_op op_sub (pv 9) pe_int)))) pss_nil) 
    (pss_cons (ps_set (i := 10) sc_law_constraint.nd rfl (Or.inl rfl) (pe_op op_sub (pv 9) (pv 6))) 
    (pss_cons (ps_if (pt_cmpR op_eq (pe_op op_mod (pe_op op_fdiv (pe_ix ix_list (pv 2) pe_int (fun _ _ => rfl)) pe_int) pe_int) pe_int (nomark _)) 
      (pss_one (ps_set (i := 10) sc_law_constraint.nd rfl (Or.inl rfl) (pe_op op_sub (pe_op op_add (pv 10) (pe_op op_mod (pe_op op_fdiv (pe_ix ix_list (pv 2) pe_int (fun _ _ => rfl)) pe_int) pe_int)) pe_int))) pss_nil) 
    (pss_cons (ps_if (pt_cmpR op_eq (pv 7) pe_str (nomark _)) 
      (pss_one (ps_ret (pe_tup (pa_cons pe_str (pa_cons (pv 8) (pa_cons (pe_op op_catA (pv 4) (pe_tup (pa_cons (pv 10) pa_nil))) pa_nil)))))) pss_nil) 
    (pss_one (ps_ret (pe_tup (pa_cons (pv 7) (pa_cons (pe_op op_catA (pv 4) (pe_tup (pa_cons (pv 10) pa_nil))) pa_nil))))))))))), fun H1 nl ca ds cs v m kk v3 v5 v9 v10 s1 e1 hl hca hcl hcs hv m1 m6 hk => ?_⟩
      have dz : ∀ j : Nat, j < 4 → ∃ z, ds[j]? = some z := fun j hj => ⟨_, List.getElem?_eq_getElem (by omega)⟩
      have ix : ∀ (j : Nat) z, ds[j]? = some z → atI (ds.map V.int) (j : Int) = some (V.int z) := fun j z e => atI_nat (by rw [List.getElem?_map, e]; rfl)
      obtain ⟨z0, ez0⟩ := dz 0 (by decide)
      obtain ⟨z2, ez2⟩ := dz 2 (by decide)
      obtain ⟨z3, ez3⟩ := dz 3 (by decide)
      have hl' := SqL.of (K := K) e1
      have hv' : v.natAbs < 2 ^ 70 := hv
      have hs0 := Int.emod_nonneg z3 (show (5 : Int) ≠ 0 by decide)
      have hs1 := Int.emod_lt_of_pos z3 (show (0 : Int) < 5 by decide)
      have hq0 := Int.emod_nonneg (z2 / 6) (show (7 : Int) ≠ 0 by decide)
      have hq1 := Int.emod_lt_of_pos (z2 / 6) (show (0 : Int) < 7 by decide)
      have fin : ∀ (k : Kd) (x : Int), k.ok → (match k with | .div m => Sz 4 m | _ => True) → x.natAbs < 2 ^ 71 → (1 ≤ sizeLine ∧ ∀ p, H1 p = none → rCatA K (V.ref ca) (V.ref p) (upd H1 p (.tup [V.int x])) fun y H2 => (kvv k .non).length ≤ sizeLine ∧ ∀ p, H2 p = none → Q (V.ref p) (upd H2 p (.tup (kvv k y)))) := fun k x ok km hx =>
        ⟨by decide, fun p4 n4 => cat_sm (ys := [V.int x]) (sameT (same_upd n4) hca) (SqT.of upd_same) (by rw [List.length_map]; simp; omega) fun H5 p5 s5 h5 => ⟨by cases k <;> (first | decide | exact (by decide : 3 ≤ sizeLine)), fun p6 n6 => by
          have r4 := ct_new (K := K) (k := k) (t := ⟨k, cs, x⟩) ((s1.trans (same_upd n4)).trans s5) n6 (by rw [Ct.e, List.map_append]; exact h5) rfl
          have ek : kvv k (V.ref p5) = k.v p5 := by cases k <;> rfl
          rw [ek]
          exact q _ _ _ r4.1 r4.2 ⟨ok, hcl, hcs, Sz.mono (a := 71) hx (by decide), km⟩⟩⟩
      rcases hk with rfl | rfl | rfl
      · walk_at "wp"
        refine ⟨_, hl', _, ix 3 z3 ez3, z3, rfl, by decide, _, hl', _, ix 0 z0 ez0, z0, rfl, ⟨by decide, by decide⟩, by decide, ?_⟩
        split
        · exact ⟨_, hl', _, ix 2 z2 ez2, z2, rfl, ⟨by decide, by decide⟩, by decide, fin .ge _ trivial trivial (by omega)⟩
        · exact fin .ge _ trivial trivial (by omega)
      · walk_at "wp"
        refine ⟨_, hl', _, ix 3 z3 ez3, z3, rfl, by decide, _, hl', _, ix 0 z0 ez0, z0, rfl, ⟨by decide, by decide⟩, by decide, ?_⟩
        split
        · exact ⟨_, hl', _, ix 2 z2 ez2, z2, rfl, ⟨by decide, by decide⟩, by decide, fin .eq _ trivial trivial (by omega)⟩
        · exact fin .eq _ trivial trivial (by omega)
      · walk_at "wp"
        have h4 : Sz 4 m := by unfold Sz; show m.natAbs < 16; omega
        have h5 : Sz 4 (z3 % 5 - 2) := by unfold Sz; show Int.natAbs _ < 16; omega
        have h8 : (m * (z3 % 5 - 2)).natAbs < 2 ^ 8 := h4.mul h5
        refine ⟨_, hl', _, ix 3 z3 ez3, z3, rfl, by decide, ⟨_, _, h4, h5, by decide⟩, _, hl', _, ix 0 z0 ez0, z0, rfl, ⟨by decide, by decide⟩, by decide, ?_⟩
        generalize m * (z3 % 5 - 2) = mm at *
        split
        · exact ⟨_, hl', _, ix 2 z2 ez2, z2, rfl, ⟨by decide, by decide⟩, by decide, fin (.div m) _ m1 h4 (by omega)⟩
        · exact fin (.div m) _ m1 h4 (by omega)
    refine ⟨_, (pss_cons (ps_set (i := 2) sc_law_constraint.nd rfl (Or.inl rfl) (pe_call G_law_draws hr (by rfl) T.g_law_draws T.F_law_draws.kp T.B_law_draws .nil pass0 (pa_cons (pv 0) (pa_cons (pe_op op_add (pe_callB call_len_seq (by rfl) T.b_len (by decide +kernel) (pa_cons (pv 1) pa_nil)) pe_int) pa_nil)))) 
    (pss_cons (ps_set (i := 3) sc_law_constraint.nd rfl (Or.inr rfl) (pe_ix ix_tup (pe_tup (pa_cons pe_int (pa_cons pe_int (pa_cons pe_int pa_nil)))) (pe_op op_mod (pe_ix ix_list (pv 2) pe_int (fun _ _ => rfl)) pe_int) (fun _ _ => rfl))) 
    (pss_cons (ps_set (i := 4) sc_law_constraint.nd rfl (Or.inl rfl) (pe_callTy call_tuple_of (by rfl) T.b_tuple (by decide +kernel) (pa_cons (pe_lc (own := [("number", 5)]) (by rfl) sc_law_constraint.nd (pi_list (pe_slice sl_list (pv 2) (po_some pe_int) po_none)) (blkOk_by (own := [("number", 5)]) (N := ["cell", "point", "numbers", "size", "coefficients", "number", "value", "kind", "modulus", "slack", "constant"]) (sc := defScope s_law_constraint) (by decide +kernel)) (fun _ _ _ _ _ => (pg_name (i := 5) sc_law_constraint.nd rfl (Or.inl rfl) (Or.inr rfl))) (fun _ _ _ _ _ => pts_nil) (fun _ _ _ _ _ => (pe_op op_sub (pe_op op_mod (pv 5) (pe_op op_add (pe_op op_mulX pe_int (pv 3)) pe_int)) (pv 3)))) pa_nil))) 
    (pss_cons (ps_set (i := 6) sc_law_constraint.nd rfl (Or.inl rfl) (pe_call G_law_value hr (by rfl) T.g_law_value T.F_law_value.kp T.B_law_value .nil pass0 (pa_cons (pe_op op_catA (pv 4) (pe_tup (pa_cons pe_int pa_nil))) (pa_cons (pv 1) pa_nil)))) 
    (pss_cons (ps_set (i := 7) sc_law_constraint.nd rfl (Or.inl rfl) (pe_ix ix_tup (pe_tup (pa_cons pe_str (pa_cons pe_str (pa_cons pe_str (pa_cons pe_str pa_nil))))) (pe_op op_mod (pe_ix ix_list (pv 2) pe_int (fun _ _ => rfl)) pe_int) (fun _ _ => rfl))) 
    (pss_cons (ps_set (i := 8) sc_law_constraint.nd rfl (Or.inl rfl) (pe_op op_add pe_int (pe_op op_mod (pe_ix ix_list (pv 2) pe_int (fun _ _ => rfl)) pe_int))) hR)))))), ?_⟩
    walk_at "wp"
    refine ⟨_, .inr hB, c, n + 4, by rw [List.length_map, hP.len, Int.natCast_add]; rfl, hc, by omega, fun H1 nl ds s1 e1 _ hl => ⟨by decide, fun pz nz => ?_⟩⟩
    have e1' := (same_upd (o := .tup [V.int 1, V.int 3, V.int 9]) nz) _ _ e1
    have dz : ∀ j : Nat, j < 4 → ∃ z, ds[j]? = some z := fun j hj => ⟨_, List.getElem?_eq_getElem (by omega)⟩
    have ix : ∀ (j : Nat) z, ds[j]? = some z → atI (ds.map V.int) (j : Int) = some (V.int z) := fun j z e => atI_nat (by rw [List.getElem?_map, e]; rfl)
    obtain ⟨z0, ez0⟩ := dz 0 (by decide)
    obtain ⟨z1, ez1⟩ := dz 1 (by decide)
    obtain ⟨z2, ez2⟩ := dz 2 (by decide)
    obtain ⟨sz, hsz, esz⟩ : ∃ sz : Int, (sz = 1 ∨ sz = 3 ∨ sz = 9) ∧ atI [V.int 1, V.int 3, V.int 9] (z0 % 3) = some (V.int sz) := by
      have h1 := Int.emod_nonneg z0 (show (3 : Int) ≠ 0 by decide)
      have h2 := Int.emod_lt_of_pos z0 (show (0 : Int) < 3 by decide)
      rcases (by omega : z0 % 3 = 0 ∨ z0 % 3 = 1 ∨ z0 % 3 = 2) with e | e | e
      · exact ⟨1, .inl rfl, by rw [e]; rfl⟩
      · exact ⟨3, .inr (.inl rfl), by rw [e]; rfl⟩
      · exact ⟨9, .inr (.inr rfl), by rw [e]; rfl⟩
    refine ⟨nl, rfl, _, SqL.of e1', _, ix 0 z0 ez0, z0, rfl, by decide, _, SqT.of upd_same, _, esz, ?_⟩
    have ec : cutV (ds.map V.int) (some 4) none = (ds.drop 4).map V.int := by
      unfold cutV
      rw [show HT.sIx (ds.map V.int).length 0 (some 4) = min 4 (ds.map V.int).length from HT.sIx_nat _ 0 4, HT.sIx_none, List.length_map, hl, show min 4 (n + 4) = 4 by omega, ← List.map_drop, List.take_of_length_le (by rw [List.length_map, List.length_drop]; omega)]
    refine ⟨nl, _, rfl, SqL.of e1', fun p2 n2 => ?_⟩
    rw [ec]
    refine ⟨p2, rfl, ⟨_, SqL.of upd_same⟩, fun D hD => ?_⟩
    refine lc_lstI (fun x => x % (2 * sz + 1) - sz) (SqL.of upd_same) hD (by rw [List.length_drop]; omega) (fun x H' R hx s3 k1 => ?_) (fun H3 s3 e3 => ?_)
    · walk_at "wp"
      refine ⟨⟨2, 4, by unfold Sz; decide, by unfold Sz; rcases hsz with rfl | rfl | rfl <;> decide, by decide⟩, by rcases hsz with rfl | rfl | rfl <;> decide, k1 _ (Same.refl _)⟩
    · have hcs : ∀ x ∈ (ds.drop 4).map (fun x => x % (2 * sz + 1) - sz), Sz 4 x := fun x hx => by
        obtain ⟨y, _, rfl⟩ := List.mem_map.mp hx
        have h1 := Int.emod_nonneg y (show 2 * sz + 1 ≠ 0 by omega)
        have h2 := Int.emod_lt_of_pos y (show 0 < 2 * sz + 1 by omega)
        unfold Sz
        show Int.natAbs _ < 16
        omega
      have hcl : ((ds.drop 4).map (fun x => x % (2 * sz + 1) - sz)).length = n := by rw [List.length_map, List.length_drop]; omega
      generalize (ds.drop 4).map (fun x => x % (2 * sz + 1) - sz) = cs at *
      have sA := ((s1.trans (same_upd nz)).trans (same_upd n2)).trans s3
      have e13 : H3 nl = some (.lst (ds.map V.int)) := s3 _ _ ((same_upd n2) _ _ e1')
      refine ⟨_, .inl ⟨SqL.of e3, fun ca nca => ⟨by decide, fun p5 n5 => ?_⟩⟩⟩
      have s5 := (same_upd (o := .tup (cs.map V.int)) nca).trans (same_upd (o := .tup [V.int 0]) n5)
      have hca : SqT K (upd (upd H3 ca (.tup (cs.map V.int))) p5 (.tup [V.int 0])) ca (cs.map V.int) := sameT (same_upd n5) (SqT.of upd_same)
      refine cat_sm (ys := [V.int 0]) hca (SqT.of upd_same) (by rw [List.length_map]; simp; omega) fun H6 p6 s6 h6 => ?_
      have sB := (sA.trans s5).trans s6
      refine ⟨p6, b, cs, 0, p, rfl, by rw [List.map_append]; exact h6, sameT sB hB, by rw [hcl, hP.len], by rw [hP.len]; omega, fun x hx => (hcs x hx).mono (by decide), fun x hx => (hP.ps x hx).mono (by decide), fun H7 s7 => ⟨by decide, fun p8 n8 => ?_⟩⟩
      have e17 := (same_upd (o := .tup [V.str (Str.ofString "ge"), V.str (Str.ofString "ge"), V.str (Str.ofString "eq"), V.str (Str.ofString "div")]) n8) _ _ (s7 _ _ (s6 _ _ (s5 _ _ e13)))
      obtain ⟨kk, hkk, ekk⟩ : ∃ kk : Str, (kk = Str.ofString "ge" ∨ kk = Str.ofString "eq" ∨ kk = Str.ofString "div") ∧ atI [V.str (Str.ofString "ge"), V.str (Str.ofString "ge"), V.str (Str.ofString "eq"), V.str (Str.ofString "div")] (z1 % 4) = some (V.str kk) := by
        have h1 := Int.emod_nonneg z1 (show (4 : Int) ≠ 0 by decide)
        have h2 := Int.emod_lt_of_pos z1 (show (0 : Int) < 4 by decide)
        rcases (by omega : z1 % 4 = 0 ∨ z1 % 4 = 1 ∨ z1 % 4 = 2 ∨ z1 % 4 = 3) with e | e | e | e
        · exact ⟨_, .inl rfl, by rw [e]; rfl⟩
        · exact ⟨_, .inl rfl, by rw [e]; rfl⟩
        · exact ⟨_, .inr (.inl rfl), by rw [e]; rfl⟩
        · exact ⟨_, .inr (.inr rfl), by rw [e]; rfl⟩
      refine ⟨nl, rfl, _, SqL.of e17, _, ix 1 z1 ez1, z1, rfl, by decide, _, SqT.of upd_same, _, ekk, nl, rfl, _, SqL.of e17, _, ix 2 z2 ez2, z2, rfl, by decide, ?_⟩
      have hm0 := Int.emod_nonneg z2 (show (6 : Int) ≠ 0 by decide)
      have hm1 := Int.emod_lt_of_pos z2 (show (0 : Int) < 6 by decide)
      refine kR _ nl ca ds cs _ _ kk _ _ _ _ ((sB.trans s7).trans (same_upd n8)) e17 hl (sameT ((s6.trans s7).trans (same_upd n8)) hca) hcl hcs ?_ (by omega) (by omega) hkk
      rw [Int.add_zero]
      have := dot_sz cs p hcs hP.ps
      exact this.mono (by rw [hcl]; omega)
def sp_law (K : PySem.W.Frag) : Sp := fun vs H Q _ => ∃ (a : Addr) (ns : List Int), vs = [.ref a] ∧ SqL K H a (ns.map V.int) ∧ (∀ z ∈ ns, Builtin.Int.intBits z ≤ 1048576) ∧ ∀ H', Q (.bl true) H'
theorem sp_law_of {K : PySem.W.Frag} {H : Hp} {a : Addr} {ns : List Int} (_ : ns.length ≤ 63) (hb : ∀ z ∈ ns, Builtin.Int.intBits z ≤ 1048576) (_ : Only H) (hS : SqL K H a (ns.map V.int)) : sp_law K [.ref a] H (fun v _ => v = .bl true) fun _ _ _ => False :=
  ⟨a, ns, rfl, hS, hb, fun _ => rfl⟩
theorem sz_cell {ns : List Int} (hb : ∀ z ∈ ns, Builtin.Int.intBits z ≤ 1048576) (j : Nat) : Sz 1048577 (cellOf ns j) := by
  unfold L2.cellOf
  by_cases h : j < ns.length
  · exact Sz.bits (hb _ (memD h))
  · rw [List.getD_eq_getElem?_getD, List.getElem?_eq_none (by omega)]
    exact Sz.zero _
theorem ok_law (T : Txt K mg A) : FnOk P w K mg base CX0 3 A.f_law A.d_law ["script"] (sp_law K) := by
  have G_law_point := ok_law_point (P := P) (w := w) (base := base) T
  have G_law_cell := ok_law_cell (P := P) (w := w) (base := base) T
  have G_law_constraint := ok_law_constraint (P := P) (w := w) (base := base) T
  have G_failures := ok_failures (P := P) (w := w) (base := base) T
  have G_law_holds := ok_law_holds (P := P) (w := w) (base := base) T
  have G_law_is_constraint := ok_law_is_constraint (P := P) (w := w) (base := base) T
  refine T.F_law.ok sc_law (fun vs H Q E h => ?_) (fun cdv A' outer s H vs Q E hr h => ?_)
  · obtain ⟨l, ns, rfl, _⟩ := h
    rfl
  · obtain ⟨l, ns, rfl, hS, hb, q⟩ := h
    have ⟨R, hR, kR⟩ : ∃ R, PSs (cxOf CX0 P w K mg base ["script", "variables", "point", "other", "k", "constraint", "found", "due", "row", "at", "some"] "law" (defScope s_law) A.f_law cdv A' outer s H E).nox ((forBody ((defBody s_law).getD 3 (.Pass ⟨0, 0, 0, 0⟩))).drop 5) R ∧ ∀ (D : Ends) (H1 : Hp) (pa oa xa fa : Addr) (n : Nat) (p o : List Int) (t : Ct) (rs : List (Addr × Ct)) (z due : Int) (v8 v9 v10 : Option V),
        SqT K H1 pa (p.map V.int) → SqT K H1 oa (o.map V.int) → Pt n p → Pt n o → n ≤ 4 → CtT K H1 xa t → Gd n t → H1 fa = some (.lst (rsv rs)) → RsAll (CtT K) H1 rs → rs.map (·.2) = fls t → due = (fls t).length →
        (∀ H2 v8 v9 v10, Same H1 H2 → D.nx [some (.ref l), some (.int (n:Int)), some (.ref pa), some (.ref oa), some (.int z), some (.ref xa), some (.ref fa), some (.int due), v8, v9, v10] H2) →
        R D [some (.ref l), some (.int (n : Int)), some (.ref pa), some (.ref oa), some (.int z), some (.ref xa), some (.ref fa), some (.int due), v8, v9, v10] H1 := by
      refine ⟨_, (pss_cons (ps_if (PW.pt (pw_or (pt_not (pt_val (pe_callB call_isi (by rfl) T.b_isinstance (by decide +kernel) (pa_cons (pv 6) (pa_cons (pe_bltn (v := .ty "list") (by rfl) T.b_list (by decide +kernel) rfl) pa_nil))))) (pw_or1 (pt_cmpR op_ne (pe_callB call_len_seq (by rfl) T.b_len (by decide +kernel) (pa_cons (pv 6) pa_nil)) (pv 7) (nomark _))))) 
      (pss_one (ps_ret pe_bl)) pss_nil) 
    (pss_cons (ps_if (pt_cmpR op_gt (pe_callB call_len_seq (by rfl) T.b_len (by decide +kernel) (pa_cons (pe_lc (own := [("row", 8)]) (by rfl) sc_law.nd (pi_list (pv 6)) (blkOk_by (own := [("row", 8)]) (N := ["script", "variables", "point", "other", "k", "constraint", "found", "due", "row", "at", "some"]) (sc := defScope s_law) (by decide +kernel)) (fun _ _ _ _ _ => (pg_name (i := 8) sc_law.nd rfl (Or.inl rfl) (Or.inr rfl))) (fun _ _ _ _ _ => pts_one (pt_not (pt_val (pe_call G_law_is_constraint hr (by rfl) T.g_law_is_constraint T.F_law_is_constraint.kp T.B_law_is_constraint .nil pass0 (pa_cons (pv 8) (pa_cons (pv 1) pa_nil)))))) (fun _ _ _ _ _ => pe_int)) pa_nil)) pe_int (nomark _)) 
      (pss_one (ps_ret pe_bl)) pss_nil) 
    (pss_one (ps_for PassesOwn.never rfl (pi_tup (pe_tup (pa_cons (pv 2) (pa_cons (pv 3) pa_nil)))) (pg_name (i := 9) sc_law.nd rfl (Or.inr rfl)) 
      (pss_cons (ps_set (i := 10) sc_law.nd rfl (Or.inl rfl) (pe_cmpR op_gt (pe_callB call_len_seq (by rfl) T.b_len (by decide +kernel) (pa_cons (pe_lc (own := [("row", 8)]) (by rfl) sc_law.nd (pi_list (pv 6)) (blkOk_by (own := [("row", 8)]) (N := ["script", "variables", "point", "other", "k", "constraint", "found", "due", "row", "at", "some"]) (sc := defScope s_law) (by decide +kernel)) (fun _ _ _ _ _ => (pg_name (i := 8) sc_law.nd rfl (Or.inl rfl) (Or.inr rfl))) (fun _ _ _ _ _ => pts_one (pt_val (pe_call G_law_holds hr (by rfl) T.g_law_holds T.F_law_holds.kp T.B_law_holds .nil pass0 (pa_cons (pv 8) (pa_cons (pv 9) pa_nil))))) (fun _ _ _ _ _ => pe_int)) pa_nil)) pe_int (nomark _))) 
      (pss_one (ps_if (pt_cmpR op_eq (pv 10) (pe_call G_law_holds hr (by rfl) T.g_law_holds T.F_law_holds.kp T.B_law_holds .nil pass0 (pa_cons (pv 5) (pa_cons (pv 9) pa_nil))) (nomark _)) 
        (pss_one (ps_ret pe_bl)) pss_nil))))))), fun D H1 pa oa xa fa n p o t rs z due v8 v9 v10 hp ho hP hO hn hT hG e1 hA hr hdue k => ?_⟩
      walk_at "wp"
      have hlen : rs.length = (fls t).length := by rw [← hr, List.length_map]
      have hlr : rs.length ≤ 900 := by
        rw [hlen, fls_len]
        have := hG.ms
        cases hk : t.k with
        | ge => decide
        | eq => decide
        | div m => rw [hk] at this; have : m.natAbs < 16 := this; dsimp only; omega
      have wf : ∀ r ∈ rs, r.2.k.ok ∧ r.2.c.length = n ∧ ∀ x ∈ r.2.c, Sz 10 x := fun r hr' => by
        have hm : r.2 ∈ fls t := by rw [← hr]; exact List.mem_map.mpr ⟨r, hr', rfl⟩
        exact ⟨(fls_wf t _ hG.ok hm).1, by rw [(fls_wf t _ hG.ok hm).2, hG.len], fls_sz t _ hG.cs hm⟩
      refine isi (ty_lst (SqL.of e1)) (r := true) (by decide +kernel) ⟨true, rfl, ?_⟩
      walk_at "wp"
      refine ⟨_, .inl (SqL.of e1), ?_⟩
      rw [if_neg (by rw [rsv, List.length_map, hlen, hdue]; simp)]
      have row : ∀ (i : Nat) (x : V) (H2 H3 : Hp), YAt (rsv rs) i H2 x H3 → H3 = H2 ∧ ∃ r, rs[i]? = some r ∧ x = .ref r.1 := fun i x H2 H3 y => by
        obtain ⟨rfl, e⟩ := yat_at y
        rw [rsv, List.getElem?_map] at e
        cases hr : rs[i]? with
        | none => rw [hr] at e; cases e
        | some r => rw [hr] at e; cases e; exact ⟨rfl, r, rfl, rfl⟩
      refine ⟨⟨_, SqL.of e1⟩, fun D1 hD1 => ?_⟩
      refine lc_count (walk_list (xs := rsv rs)) (fun _ => false) (fun _ => .int 1) hD1 (by rw [rsv, List.length_map]; omega) (fun H' s => s.seq (SqL.of e1)) yat_same (fun i x H2 H3 N R hi s2 y kN kR => ?_) (fun H2 s2 e2 => ?_)
      · obtain ⟨rfl, r, er, rfl⟩ := row _ _ _ _ y
        have hw := wf r (List.mem_of_getElem? er)
        walk_at "wp"
        refine ⟨r.1, r.2, n, rfl, (hA r (List.mem_of_getElem? er)).same s2, hw.1, hw.2.1, fun H4 s4 => ⟨true, rfl, ?_⟩⟩
        walk_at "wp"
        exact kN rfl _ s4
      · rw [show (List.range (rsv rs).length).filter (fun _ => false) = [] from List.filter_eq_nil_iff.mpr fun _ _ => by decide, List.map_nil] at e2
        refine ⟨_, .inl (SqL.of e2), ?_⟩
        rw [if_neg (by simp)]
        refine ⟨by decide, fun p3 n3 => ⟨⟨_, SqT.of upd_same⟩, ?_⟩⟩
        have s13 := s2.trans (same_upd (o := .tup [V.ref pa, V.ref oa]) n3)
        have ht3 : SqT K (upd H2 p3 (.tup [V.ref pa, V.ref oa])) p3 [V.ref pa, V.ref oa] := SqT.of upd_same
        generalize upd H2 p3 (.tup [V.ref pa, V.ref oa]) = H3 at *
        refine loop_it (walk_tup (xs := [V.ref pa, V.ref oa])) (fun i σ H' => Same H3 H' ∧ ∃ v8 v9 v10, σ = [some (.ref l), some (.int (n : Int)), some (.ref pa), some (.ref oa), some (.int z), some (.ref xa), some (.ref fa), some (.int due), v8, v9, v10]) ⟨Same.refl _, _, _, _, rfl⟩ (fun i σ H' _ p => sameT p.1 ht3) ?_ ?_
        · rintro i x σ H4 H5 hi ⟨s4, v8, v9, v10, rfl⟩ y
          obtain ⟨rfl, e⟩ := yat_at y
          obtain ⟨ba, b, rfl, hb, hB⟩ : ∃ ba b, x = .ref ba ∧ SqT K H1 ba (b.map V.int) ∧ Pt n b := by
            rcases i with _ | _ | i
            · cases e; exact ⟨pa, p, rfl, hp, hP⟩
            · cases e; exact ⟨oa, o, rfl, ho, hO⟩
            · cases e
          have s14 := s13.trans s4
          walk_at "wp"
          refine ⟨⟨_, SqL.of (s14 _ _ e1)⟩, fun D2 hD2 => ?_⟩
          refine lc_count (walk_list (xs := rsv rs)) (fun i => (rs[i]?.getD (fa, t)).2.at_ b) (fun _ => .int 1) hD2 (by rw [rsv, List.length_map]; omega) (fun H' s => s.seq (SqL.of (s14 _ _ e1))) yat_same (fun i x H6 H7 N R hi s6 y kN kR => ?_) (fun H6 s6 e6 => ?_)
          · obtain ⟨rfl, r, er, rfl⟩ := row _ _ _ _ y
            have hw := wf r (List.mem_of_getElem? er)
            simp only [er, Option.getD_some] at kN kR
            walk_at "wp"
            refine ⟨r.1, ba, r.2, b, rfl, (hA r (List.mem_of_getElem? er)).same (s14.trans s6), hw.1, sameT (s14.trans s6) hb, by rw [hw.2.1, hB.len], by rw [hB.len]; omega, fun x hx => (hw.2.2 x hx).mono (by decide), fun x hx => (hB.ps x hx).mono (by decide), fun H8 s8 => ⟨_, rfl, ?_⟩⟩
            cases hat : r.2.at_ b with
            | true => rw [if_pos rfl]; exact kR hat _ s8
            | false => rw [if_neg (by decide)]; exact kN hat _ s8
          · refine ⟨_, .inl (SqL.of e6), ?_⟩
            have eb : decide (0 < ((((List.range (rsv rs).length).filter fun i => (rs[i]?.getD (fa, t)).2.at_ b).map fun _ => V.int 1).length : Int)) = !t.at_ b := by
              rw [List.length_map, filter_len_pos, rsv, List.length_map, range_filter_any (fa, t) (fun r => r.2.at_ b) rs, ← fls_any t hG.ok b, ← hr, List.any_map]
              rfl
            rw [eb]
            have s16 := s14.trans s6
            refine ⟨xa, ba, t, b, rfl, hT.same s16, hG.ok, sameT s16 hb, by rw [hG.len, hB.len], by rw [hB.len]; omega, fun x hx => (hG.cs x hx).mono (by decide), fun x hx => (hB.ps x hx).mono (by decide), fun H8 s8 => ⟨rfl, ?_⟩⟩
            rw [if_neg (by cases t.at_ b <;> decide)]
            exact ⟨s4.trans (s6.trans s8), _, rfl⟩
        · rintro σ H4 ⟨s4, v8, v9, v10, rfl⟩
          exact k _ _ _ _ (s13.trans s4)
    refine ⟨_, (pss_cons (ps_set (i := 1) sc_law.nd rfl (Or.inr rfl) (pe_op op_mod (pe_callTy call_intI (by rfl) T.b_int (by decide +kernel) (pa_cons (pe_call G_law_cell (hr.mono (by decide)) (by rfl) T.g_law_cell T.F_law_cell.kp T.B_law_cell .nil pass0 (pa_cons (pv 0) (pa_cons pe_int pa_nil))) pa_nil)) pe_int)) 
    (pss_cons (ps_set (i := 2) sc_law.nd rfl (Or.inl rfl) (pe_call G_law_point hr (by rfl) T.g_law_point T.F_law_point.kp T.B_law_point .nil pass0 (pa_cons (pe_call G_law_cell (hr.mono (by decide)) (by rfl) T.g_law_cell T.F_law_cell.kp T.B_law_cell .nil pass0 (pa_cons (pv 0) (pa_cons pe_int pa_nil))) (pa_cons (pv 1) pa_nil)))) 
    (pss_cons (ps_set (i := 3) sc_law.nd rfl (Or.inl rfl) (pe_call G_law_point hr (by rfl) T.g_law_point T.F_law_point.kp T.B_law_point .nil pass0 (pa_cons (pe_call G_law_cell (hr.mono (by decide)) (by rfl) T.g_law_cell T.F_law_cell.kp T.B_law_cell .nil pass0 (pa_cons (pv 0) (pa_cons pe_int pa_nil))) (pa_cons (pv 1) pa_nil)))) 
    (pss_cons (ps_for PassesOwn.never rfl (pi_range2 (by rfl) T.b_range (pa_cons pe_int (pa_cons pe_int pa_nil))) (pg_name (i := 4) sc_law.nd rfl (Or.inl rfl)) 
      (pss_cons (ps_set (i := 5) sc_law.nd rfl (Or.inl rfl) (pe_call G_law_constraint hr (by rfl) T.g_law_constraint T.F_law_constraint.kp T.B_law_constraint .nil pass0 (pa_cons (pe_call G_law_cell (hr.mono (by decide)) (by rfl) T.g_law_cell T.F_law_cell.kp T.B_law_cell .nil pass0 (pa_cons (pv 0) (pa_cons (pv 4) pa_nil))) (pa_cons (pv 2) pa_nil)))) 
      (pss_cons (ps_set (i := 6) sc_law.nd rfl (Or.inl rfl) (pe_call G_failures hr (by rfl) T.g_failures T.F_failures.kp T.B_failures .nil pass0 (pa_cons (pv 5) pa_nil))) 
      (pss_cons (ps_set (i := 7) sc_law.nd rfl (Or.inl rfl) pe_int) 
      (pss_cons (ps_if (pt_cmpR op_eq (pe_ix ix_tup (pv 5) pe_int (fun _ _ => rfl)) pe_str (nomark _)) 
        (pss_one (ps_set (i := 7) sc_law.nd rfl (Or.inl rfl) pe_int)) pss_nil) 
      (pss_cons (ps_if (pt_cmpR op_eq (pe_ix ix_tup (pv 5) pe_int (fun _ _ => rfl)) pe_str (nomark _)) 
        (pss_one (ps_set (i := 7) sc_law.nd rfl (Or.inl rfl) (pe_op op_sub (pe_ix ix_tup (pv 5) pe_int (fun _ _ => rfl)) pe_int))) pss_nil) hR)))))) 
    (pss_one (ps_ret pe_bl)))))), ?_⟩
    walk_at "wp"
    refine ⟨l, ns, 0, rfl, hS, _, rfl, by decide, l, ns, 1, rfl, hS, ?_⟩
    obtain ⟨n, hn, en⟩ : ∃ n : Nat, n ≤ 4 ∧ cellOf ns 0 % 5 = (n : Int) := ⟨(cellOf ns 0 % 5).toNat, by omega, by omega⟩
    rw [en]
    refine ⟨_, n, rfl, sz_cell hb _, by omega, fun H1 pa p s1 hp hP => ?_⟩
    refine ⟨l, ns, 2, rfl, s1.seq hS, _, n, rfl, sz_cell hb _, by omega, fun H2 oa o s2 ho hO => ?_⟩
    refine ⟨by decide, by decide, by decide, by decide, ?_⟩
    refine loop_it (walk_range (lo := 3) (n := 17)) (fun i σ H' => Same H2 H' ∧ ∃ v4 v5 v6 v7 v8 v9 v10, σ = [some (V.ref l), some (V.int (n : Int)), some (V.ref pa), some (V.ref oa), v4, v5, v6, v7, v8, v9, v10]) ⟨Same.refl _, _, _, _, _, _, _, _, rfl⟩ (fun _ _ _ _ _ => trivial) ?_ ?_
    · rintro i x σ H3 H4 hi ⟨s3, v4, v5, v6, v7, v8, v9, v10, rfl⟩ ⟨rfl, rfl⟩
      have sA := (s1.trans s2).trans s3
      walk_at "wp"
      refine ⟨l, ns, 3 + i, by rw [Int.natCast_add]; rfl, sA.seq hS, ?_⟩
      refine ⟨_, pa, p, n, rfl, sz_cell hb _, sameT (s2.trans s3) hp, hP, by omega, fun H5 xa t s5 hT hG => ?_⟩
      refine ⟨xa, t, rfl, hT, hG.ok, by rw [hG.len]; omega, ?_, ?_, fun H6 fa rs s6 e6 a6 r6 => ?_⟩
      · intro z hz
        rcases List.mem_append.mp hz with h | h
        · exact (hG.cs z h).mono (by decide)
        · rw [List.mem_singleton.mp h]
          exact hG.ds.mono (by decide)
      · have := hG.ms
        cases hk : t.k with
        | ge => trivial
        | eq => trivial
        | div m => rw [hk] at this; have : m.natAbs < 16 := this; dsimp only; omega
      have hT6 := hT.same s6
      have hp6 := sameT (((s2.trans s3).trans s5).trans s6) hp
      have ho6 := sameT ((s3.trans s5).trans s6) ho
      have s36 := (s3.trans s5).trans s6
      have kk := fun (D : Ends) (due : Int) (v8 v9 v10 : Option V) (hd : due = (fls t).length) => kR D H6 pa oa xa fa n p o t rs (3 + (i : Int)) due v8 v9 v10 hp6 ho6 hP hO hn hT6 hG e6 a6 r6 hd
      rw [fls_len] at kk
      obtain ⟨ca, h1, h2⟩ := hT6
      obtain ⟨k, c, d⟩ := t
      cases k with
      | ge =>
        refine ⟨_, rfl, _, h1, _, rfl, ?_⟩
        walk_at "wp"
        refine ⟨_, h1, _, rfl, rfl, ?_⟩
        walk_at "wp"
        exact kk _ 1 _ _ _ rfl fun H7 v8 v9 v10 s7 => ⟨s36.trans s7, _, _, _, _, _, _, _, rfl⟩
      | eq =>
        refine ⟨_, rfl, _, h1, _, rfl, ?_⟩
        walk_at "wp"
        refine ⟨_, h1, _, rfl, rfl, ?_⟩
        walk_at "wp"
        exact kk _ 2 _ _ _ rfl fun H7 v8 v9 v10 s7 => ⟨s36.trans s7, _, _, _, _, _, _, _, rfl⟩
      | div m =>
        have hm : 1 ≤ m := hG.ok
        refine ⟨_, rfl, _, h1, _, rfl, ?_⟩
        walk_at "wp"
        refine ⟨_, h1, _, rfl, rfl, ?_⟩
        walk_at "wp"
        refine ⟨_, h1, _, rfl, m, rfl, ?_⟩
        exact kk _ (m - 1) _ _ _ (by dsimp only; omega) fun H7 v8 v9 v10 s7 => ⟨s36.trans s7, _, _, _, _, _, _, _, rfl⟩
    · rintro σ H3 ⟨s3, v4, v5, v6, v7, v8, v9, v10, rfl⟩
      walk_at "wp"
      exact q _
theorem all_mk {K : PySem.W.Frag} {h : Heap} {mg : Str → Option Value} {fa : Addr} (X : K.In h) (G : h.Ns mainGlobals mg) (hfa : mg "law" = some (.ref fa))
    {x_multiply : Addr} {od_multiply an_multiply : Option Addr} {sl_multiply : Array (Option Value)} {oc_multiply kV_multiply dc_multiply pm_multiply cd_multiply ct_multiply : Value}
    {x_with_constant_added : Addr} {od_with_constant_added an_with_constant_added : Option Addr} {sl_with_constant_added : Array (Option Value)} {oc_with_constant_added kV_with_constant_added dc_with_constant_added pm_with_constant_added cd_with_constant_added ct_with_constant_added : Value}
    {x_failures : Addr} {od_failures an_failures : Option Addr} {sl_failures : Array (Option Value)} {oc_failures kV_failures dc_failures pm_failures cd_failures ct_failures : Value}
    {x_law_cell : Addr} {od_law_cell an_law_cell : Option Addr} {sl_law_cell : Array (Option Value)} {oc_law_cell kV_law_cell dc_law_cell pm_law_cell cd_law_cell ct_law_cell : Value}
    {x_law_draws : Addr} {od_law_draws an_law_draws : Option Addr} {sl_law_draws : Array (Option Value)} {oc_law_draws kV_law_draws dc_law_draws pm_law_draws cd_law_draws ct_law_draws : Value}
    {x_law_value : Addr} {od_law_value an_law_value : Option Addr} {sl_law_value : Array (Option Value)} {oc_law_value kV_law_value dc_law_value pm_law_value cd_law_value ct_law_value : Value}
    {x_law_holds : Addr} {od_law_holds an_law_holds : Option Addr} {sl_law_holds : Array (Option Value)} {oc_law_holds kV_law_holds dc_law_holds pm_law_holds cd_law_holds ct_law_holds : Value}
    {x_law_is_integer : Addr} {od_law_is_integer an_law_is_integer : Option Addr} {sl_law_is_integer : Array (Option Value)} {oc_law_is_integer kV_law_is_integer dc_law_is_integer pm_law_is_integer cd_law_is_integer ct_law_is_integer : Value}
    {x_law_is_constraint : Addr} {od_law_is_constraint an_law_is_constraint : Option Addr} {sl_law_is_constraint : Array (Option Value)} {oc_law_is_constraint kV_law_is_constraint dc_law_is_constraint pm_law_is_constraint cd_law_is_constraint ct_law_is_constraint : Value}
    {x_law_point : Addr} {od_law_point an_law_point : Option Addr} {sl_law_point : Array (Option Value)} {oc_law_point kV_law_point dc_law_point pm_law_point cd_law_point ct_law_point : Value}
    {x_law_constraint : Addr} {od_law_constraint an_law_constraint : Option Addr} {sl_law_constraint : Array (Option Value)} {oc_law_constraint kV_law_constraint dc_law_constraint pm_law_constraint cd_law_constraint ct_law_constraint : Value}
    {x_law : Addr} {od_law an_law : Option Addr} {sl_law : Array (Option Value)} {oc_law kV_law dc_law pm_law cd_law ct_law : Value}
    (a_multiply : PySem.W.nsIn K mainGlobals "multiply" = some (some (.ref x_multiply))) (l_multiply : K.lookup x_multiply = some ⟨oc_multiply, od_multiply, .func (PySem.W.fnOf "multiply" "multiply" (defArgs s_multiply) (defBody s_multiply) (defScope s_multiply) .none kV_multiply dc_multiply pm_multiply an_multiply cd_multiply ct_multiply), sl_multiply⟩) (c_multiply : PySem.W.codeIn K cd_multiply "multiply" = true) (k_multiply : PySem.W.keepIn K (.ref x_multiply) = true)
    (a_with_constant_added : PySem.W.nsIn K mainGlobals "with_constant_added" = some (some (.ref x_with_constant_added))) (l_with_constant_added : K.lookup x_with_constant_added = some ⟨oc_with_constant_added, od_with_constant_added, .func (PySem.W.fnOf "with_constant_added" "with_constant_added" (defArgs s_with_constant_added) (defBody s_with_constant_added) (defScope s_with_constant_added) .none kV_with_constant_added dc_with_constant_added pm_with_constant_added an_with_constant_added cd_with_constant_added ct_with_constant_added), sl_with_constant_added⟩) (c_with_constant_added : PySem.W.codeIn K cd_with_constant_added "with_constant_added" = true) (k_with_constant_added : PySem.W.keepIn K (.ref x_with_constant_added) = true)
    (a_failures : PySem.W.nsIn K mainGlobals "failures" = some (some (.ref x_failures))) (l_failures : K.lookup x_failures = some ⟨oc_failures, od_failures, .func (PySem.W.fnOf "failures" "failures" (defArgs s_failures) (defBody s_failures) (defScope s_failures) .none kV_failures dc_failures pm_failures an_failures cd_failures ct_failures), sl_failures⟩) (c_failures : PySem.W.codeIn K cd_failures "failures" = true) (k_failures : PySem.W.keepIn K (.ref x_failures) = true)
    (a_law_cell : PySem.W.nsIn K mainGlobals "_law_cell" = some (some (.ref x_law_cell))) (l_law_cell : K.lookup x_law_cell = some ⟨oc_law_cell, od_law_cell, .func (PySem.W.fnOf "_law_cell" "_law_cell" (defArgs s_law_cell) (defBody s_law_cell) (defScope s_law_cell) .none kV_law_cell dc_law_cell pm_law_cell an_law_cell cd_law_cell ct_law_cell), sl_law_cell⟩) (c_law_cell : PySem.W.codeIn K cd_law_cell "_law_cell" = true) (k_law_cell : PySem.W.keepIn K (.ref x_law_cell) = true)
    (a_law_draws : PySem.W.nsIn K mainGlobals "_law_draws" = some (some (.ref x_law_draws))) (l_law_draws : K.lookup x_law_draws = some ⟨oc_law_draws, od_law_draws, .func (PySem.W.fnOf "_law_draws" "_law_draws" (defArgs s_law_draws) (defBody s_law_draws) (defScope s_law_draws) .none kV_law_draws dc_law_draws pm_law_draws an_law_draws cd_law_draws ct_law_draws), sl_law_draws⟩) (c_law_draws : PySem.W.codeIn K cd_law_draws "_law_draws" = true) (k_law_draws : PySem.W.keepIn K (.ref x_law_draws) = true)
    (a_law_value : PySem.W.nsIn K mainGlobals "_law_value" = some (some (.ref x_law_value))) (l_law_value : K.lookup x_law_value = some ⟨oc_law_value, od_law_value, .func (PySem.W.fnOf "_law_value" "_law_value" (defArgs s_law_value) (defBody s_law_value) (defScope s_law_value) .none kV_law_value dc_law_value pm_law_value an_law_value cd_law_value ct_law_value), sl_law_value⟩) (c_law_value : PySem.W.codeIn K cd_law_value "_law_value" = true) (k_law_value : PySem.W.keepIn K (.ref x_law_value) = true)
    (a_law_holds : PySem.W.nsIn K mainGlobals "_law_holds" = some (some (.ref x_law_holds))) (l_law_holds : K.lookup x_law_holds = some ⟨oc_law_holds, od_law_holds, .func (PySem.W.fnOf "_law_holds" "_law_holds" (defArgs s_law_holds) (defBody s_law_holds) (defScope s_law_holds) .none kV_law_holds dc_law_holds pm_law_holds an_law_holds cd_law_holds ct_law_holds), sl_law_holds⟩) (c_law_holds : PySem.W.codeIn K cd_law_holds "_law_holds" = true) (k_law_holds : PySem.W.keepIn K (.ref x_law_holds) = true)
    (a_law_is_integer : PySem.W.nsIn K mainGlobals "_law_is_integer" = some (some (.ref x_law_is_integer))) (l_law_is_integer : K.lookup x_law_is_integer = some ⟨oc_law_is_integer, od_law_is_integer, .func (PySem.W.fnOf "_law_is_integer" "_law_is_integer" (defArgs s_law_is_integer) (defBody s_law_is_integer) (defScope s_law_is_integer) .none kV_law_is_integer dc_law_is_integer pm_law_is_integer an_law_is_integer cd_law_is_integer ct_law_is_integer), sl_law_is_integer⟩) (c_law_is_integer : PySem.W.codeIn K cd_law_is_integer "_law_is_integer" = true) (k_law_is_integer : PySem.W.keepIn K (.ref x_law_is_integer) = true)
    (a_law_is_constraint : PySem.W.nsIn K mainGlobals "_law_is_constraint" = some (some (.ref x_law_is_constraint))) (l_law_is_constraint : K.lookup x_law_is_constraint = some ⟨oc_law_is_constraint, od_law_is_constraint, .func (PySem.W.fnOf "_law_is_constraint" "_law_is_constraint" (defArgs s_law_is_constraint) (defBody s_law_is_constraint) (defScope s_law_is_constraint) .none kV_law_is_constraint dc_law_is_constraint pm_law_is_constraint an_law_is_constraint cd_law_is_constraint ct_law_is_constraint), sl_law_is_constraint⟩) (c_law_is_constraint : PySem.W.codeIn K cd_law_is_constraint "_law_is_constraint" = true) (k_law_is_constraint : PySem.W.keepIn K (.ref x_law_is_constraint) = true)
    (a_law_point : PySem.W.nsIn K mainGlobals "_law_point" = some (some (.ref x_law_point))) (l_law_point : K.lookup x_law_point = some ⟨oc_law_point, od_law_point, .func (PySem.W.fnOf "_law_point" "_law_point" (defArgs s_law_point) (defBody s_law_point) (defScope s_law_point) .none kV_law_point dc_law_point pm_law_point an_law_point cd_law_point ct_law_point), sl_law_point⟩) (c_law_point : PySem.W.codeIn K cd_law_point "_law_point" = true) (k_law_point : PySem.W.keepIn K (.ref x_law_point) = true)
    (a_law_constraint : PySem.W.nsIn K mainGlobals "_law_constraint" = some (some (.ref x_law_constraint))) (l_law_constraint : K.lookup x_law_constraint = some ⟨oc_law_constraint, od_law_constraint, .func (PySem.W.fnOf "_law_constraint" "_law_constraint" (defArgs s_law_constraint) (defBody s_law_constraint) (defScope s_law_constraint) .none kV_law_constraint dc_law_constraint pm_law_constraint an_law_constraint cd_law_constraint ct_law_constraint), sl_law_constraint⟩) (c_law_constraint : PySem.W.codeIn K cd_law_constraint "_law_constraint" = true) (k_law_constraint : PySem.W.keepIn K (.ref x_law_constraint) = true)
    (a_law : PySem.W.nsIn K mainGlobals "law" = some (some (.ref x_law))) (l_law : K.lookup x_law = some ⟨oc_law, od_law, .func (PySem.W.fnOf "law" "law" (defArgs s_law) (defBody s_law) (defScope s_law) .none kV_law dc_law pm_law an_law cd_law ct_law), sl_law⟩) (c_law : PySem.W.codeIn K cd_law "law" = true) (k_law : PySem.W.keepIn K (.ref x_law) = true)
    (z_tuple : PySem.W.nsIn K mainGlobals "tuple" = some none)
    (z_range : PySem.W.nsIn K mainGlobals "range" = some none)
    (z_len : PySem.W.nsIn K mainGlobals "len" = some none)
    (z_int : PySem.W.nsIn K mainGlobals "int" = some none)
    (z_zip : PySem.W.nsIn K mainGlobals "zip" = some none)
    (z_isinstance : PySem.W.nsIn K mainGlobals "isinstance" = some none)
    (z_bool : PySem.W.nsIn K mainGlobals "bool" = some none)
    (z_list : PySem.W.nsIn K mainGlobals "list" = some none) :
    ∃ A : Ad, Txt K mg A ∧ A.f_law = fa ∧ (∀ (s : Shared) (v : Value), BindsTo s A.d_law ⟨[v], []⟩ [("script", v)]) := by
  have e := hfa.symm.trans (PySem.W.mg_of X G a_law)
  cases e
  have F_multiply := fun_mk (st := s_multiply) l_multiply c_multiply k_multiply
  have B_multiply := F_multiply.binds (ps := ["factor", "expression"]) fun _ _ _ _ _ _ us hl => match us, hl with | [_, _], _ => rfl
  have F_with_constant_added := fun_mk (st := s_with_constant_added) l_with_constant_added c_with_constant_added k_with_constant_added
  have B_with_constant_added := F_with_constant_added.binds (ps := ["expression", "number"]) fun _ _ _ _ _ _ us hl => match us, hl with | [_, _], _ => rfl
  have F_failures := fun_mk (st := s_failures) l_failures c_failures k_failures
  have B_failures := F_failures.binds (ps := ["constraint"]) fun _ _ _ _ _ _ us hl => match us, hl with | [_], _ => rfl
  have F_law_cell := fun_mk (st := s_law_cell) l_law_cell c_law_cell k_law_cell
  have B_law_cell := F_law_cell.binds (ps := ["script", "k"]) fun _ _ _ _ _ _ us hl => match us, hl with | [_, _], _ => rfl
  have F_law_draws := fun_mk (st := s_law_draws) l_law_draws c_law_draws k_law_draws
  have B_law_draws := F_law_draws.binds (ps := ["cell", "count"]) fun _ _ _ _ _ _ us hl => match us, hl with | [_, _], _ => rfl
  have F_law_value := fun_mk (st := s_law_value) l_law_value c_law_value k_law_value
  have B_law_value := F_law_value.binds (ps := ["expression", "point"]) fun _ _ _ _ _ _ us hl => match us, hl with | [_, _], _ => rfl
  have F_law_holds := fun_mk (st := s_law_holds) l_law_holds c_law_holds k_law_holds
  have B_law_holds := F_law_holds.binds (ps := ["constraint", "point"]) fun _ _ _ _ _ _ us hl => match us, hl with | [_, _], _ => rfl
  have F_law_is_integer := fun_mk (st := s_law_is_integer) l_law_is_integer c_law_is_integer k_law_is_integer
  have B_law_is_integer := F_law_is_integer.binds (ps := ["value"]) fun _ _ _ _ _ _ us hl => match us, hl with | [_], _ => rfl
  have F_law_is_constraint := fun_mk (st := s_law_is_constraint) l_law_is_constraint c_law_is_constraint k_law_is_constraint
  have B_law_is_constraint := F_law_is_constraint.binds (ps := ["constraint", "variables"]) fun _ _ _ _ _ _ us hl => match us, hl with | [_, _], _ => rfl
  have F_law_point := fun_mk (st := s_law_point) l_law_point c_law_point k_law_point
  have B_law_point := F_law_point.binds (ps := ["cell", "variables"]) fun _ _ _ _ _ _ us hl => match us, hl with | [_, _], _ => rfl
  have F_law_constraint := fun_mk (st := s_law_constraint) l_law_constraint c_law_constraint k_law_constraint
  have B_law_constraint := F_law_constraint.binds (ps := ["cell", "point"]) fun _ _ _ _ _ _ us hl => match us, hl with | [_, _], _ => rfl
  have F_law := fun_mk (st := s_law) l_law c_law k_law
  have B_law := F_law.binds (ps := ["script"]) fun _ _ _ _ _ _ us hl => match us, hl with | [_], _ => rfl
  exact ⟨{ f_multiply := x_multiply, f_with_constant_added := x_with_constant_added, f_failures := x_failures, f_law_cell := x_law_cell, f_law_draws := x_law_draws, f_law_value := x_law_value, f_law_holds := x_law_holds, f_law_is_integer := x_law_is_integer, f_law_is_constraint := x_law_is_constraint, f_law_point := x_law_point, f_law_constraint := x_law_constraint, f_law := fa, d_multiply := PySem.W.fnOf "multiply" "multiply" (defArgs s_multiply) (defBody s_multiply) (defScope s_multiply) .none kV_multiply dc_multiply pm_multiply an_multiply cd_multiply ct_multiply, d_with_constant_added := PySem.W.fnOf "with_constant_added" "with_constant_added" (defArgs s_with_constant_added) (defBody s_with_constant_added) (defScope s_with_constant_added) .none kV_with_constant_added dc_with_constant_added pm_with_constant_added an_with_constant_added cd_with_constant_added ct_with_constant_added, d_failures := PySem.W.fnOf "failures" "failures" (defArgs s_failures) (defBody s_failures) (defScope s_failures) .none kV_failures dc_failures pm_failures an_failures cd_failures ct_failures, d_law_cell := PySem.W.fnOf "_law_cell" "_law_cell" (defArgs s_law_cell) (defBody s_law_cell) (defScope s_law_cell) .none kV_law_cell dc_law_cell pm_law_cell an_law_cell cd_law_cell ct_law_cell, d_law_draws := PySem.W.fnOf "_law_draws" "_law_draws" (defArgs s_law_draws) (defBody s_law_draws) (defScope s_law_draws) .none kV_law_draws dc_law_draws pm_law_draws an_law_draws cd_law_draws ct_law_draws, d_law_value := PySem.W.fnOf "_law_value" "_law_value" (defArgs s_law_value) (defBody s_law_value) (defScope s_law_value) .none kV_law_value dc_law_value pm_law_value an_law_value cd_law_value ct_law_value, d_law_holds := PySem.W.fnOf "_law_holds" "_law_holds" (defArgs s_law_holds) (defBody s_law_holds) (defScope s_law_holds) .none kV_law_holds dc_law_holds pm_law_holds an_law_holds cd_law_holds ct_law_holds, d_law_is_integer := PySem.W.fnOf "_law_is_integer" "_law_is_integer" (defArgs s_law_is_integer) (defBody s_law_is_integer) (defScope s_law_is_integer) .none kV_law_is_integer dc_law_is_integer pm_law_is_integer an_law_is_integer cd_law_is_integer ct_law_is_integer, d_law_is_constraint := PySem.W.fnOf "_law_is_constraint" "_law_is_constraint" (defArgs s_law_is_constraint) (defBody s_law_is_constraint) (defScope s_law_is_constraint) .none kV_law_is_constraint dc_law_is_constraint pm_law_is_constraint an_law_is_constraint cd_law_is_constraint ct_law_is_constraint, d_law_point := PySem.W.fnOf "_law_point" "_law_point" (defArgs s_law_point) (defBody s_law_point) (defScope s_law_point) .none kV_law_point dc_law_point pm_law_point an_law_point cd_law_point ct_law_point, d_law_constraint := PySem.W.fnOf "_law_constraint" "_law_constraint" (defArgs s_law_constraint) (defBody s_law_constraint) (defScope s_law_constraint) .none kV_law_constraint dc_law_constraint pm_law_constraint an_law_constraint cd_law_constraint ct_law_constraint, d_law := PySem.W.fnOf "law" "law" (defArgs s_law) (defBody s_law) (defScope s_law) .none kV_law dc_law pm_law an_law cd_law ct_law },
   { b_tuple := PySem.W.mg_none_of X G z_tuple, b_range := PySem.W.mg_none_of X G z_range, b_len := PySem.W.mg_none_of X G z_len, b_int := PySem.W.mg_none_of X G z_int, b_zip := PySem.W.mg_none_of X G z_zip, b_isinstance := PySem.W.mg_none_of X G z_isinstance, b_bool := PySem.W.mg_none_of X G z_bool, b_list := PySem.W.mg_none_of X G z_list, g_multiply := PySem.W.mg_of X G a_multiply, F_multiply := F_multiply, B_multiply := B_multiply, g_with_constant_added := PySem.W.mg_of X G a_with_constant_added, F_with_constant_added := F_with_constant_added, B_with_constant_added := B_with_constant_added, g_failures := PySem.W.mg_of X G a_failures, F_failures := F_failures, B_failures := B_failures, g_law_cell := PySem.W.mg_of X G a_law_cell, F_law_cell := F_law_cell, B_law_cell := B_law_cell, g_law_draws := PySem.W.mg_of X G a_law_draws, F_law_draws := F_law_draws, B_law_draws := B_law_draws, g_law_value := PySem.W.mg_of X G a_law_value, F_law_value := F_law_value, B_law_value := B_law_value, g_law_holds := PySem.W.mg_of X G a_law_holds, F_law_holds := F_law_holds, B_law_holds := B_law_holds, g_law_is_integer := PySem.W.mg_of X G a_law_is_integer, F_law_is_integer := F_law_is_integer, B_law_is_integer := B_law_is_integer, g_law_is_constraint := PySem.W.mg_of X G a_law_is_constraint, F_law_is_constraint := F_law_is_constraint, B_law_is_constraint := B_law_is_constraint, g_law_point := PySem.W.mg_of X G a_law_point, F_law_point := F_law_point, B_law_point := B_law_point, g_law_constraint := PySem.W.mg_of X G a_law_constraint, F_law_constraint := F_law_constraint, B_law_constraint := B_law_constraint, g_law := PySem.W.mg_of X G a_law, F_law := F_law, B_law := B_law }, rfl, fun s v => .of_eq rfl⟩
end
end K66
open PySem PySem.W PyProof.Rows in
set_option maxRecDepth 100000 in
set_option maxHeartbeats 0 in
theorem PySem.Challenge.cw_loopworks_k66_failures_of_a_constraint_holds : PySem.Challenge.rw_loopworks_k66_failures_of_a_constraint.Holds := by
  w_on; o_law; k_head; (case hw => w_witness2)
  k_fill
  refine L2.walk_ofB (l := PySem.Challenge.rw_loopworks_k66_failures_of_a_constraint) (n := 63) (k := 3) (x := "script") (CX := fun _ => L2.CX0) (sp := fun w => K66.sp_law _) rfl (by decide) rfl ⟨rfl, by decide, by decide⟩ (fun w h Y => PySem.W.kIn_of Y) ?F (fun _ H a ns hl hb hO hS => K66.sp_law_of hl hb hO hS) (fun _ _ _ _ _ h => h)
  case F =>
    intro w mg fa h KX G hmg
    obtain ⟨A, T, e, hb⟩ : ∃ A : K66.Ad, K66.Txt _ mg A ∧ A.f_law = fa ∧ (∀ (s : Shared) (v : Value), BindsTo s A.d_law ⟨[v], []⟩ [("script", v)]) := by
      refine' K66.all_mk KX G hmg ?a_multiply ?l_multiply ?c_multiply ?k_multiply ?a_with_constant_added ?l_with_constant_added ?c_with_constant_added ?k_with_constant_added ?a_failures ?l_failures ?c_failures ?k_failures ?a_law_cell ?l_law_cell ?c_law_cell ?k_law_cell ?a_law_draws ?l_law_draws ?c_law_draws ?k_law_draws ?a_law_value ?l_law_value ?c_law_value ?k_law_value ?a_law_holds ?l_law_holds ?c_law_holds ?k_law_holds ?a_law_is_integer ?l_law_is_integer ?c_law_is_integer ?k_law_is_integer ?a_law_is_constraint ?l_law_is_constraint ?c_law_is_constraint ?k_law_is_constraint ?a_law_point ?l_law_point ?c_law_point ?k_law_point ?a_law_constraint ?l_law_constraint ?c_law_constraint ?k_law_constraint ?a_law ?l_law ?c_law ?k_law ?z_tuple ?z_range ?z_len ?z_int ?z_zip ?z_isinstance ?z_bool ?z_list
      (case a_multiply => k_is)
      (case l_multiply => k_is)
      (case c_multiply => k_is)
      (case k_multiply => k_is)
      (case a_with_constant_added => k_is)
      (case l_with_constant_added => k_is)
      (case c_with_constant_added => k_is)
      (case k_with_constant_added => k_is)
      (case a_failures => k_is)
      (case l_failures => k_is)
      (case c_failures => k_is)
      (case k_failures => k_is)
      (case a_law_cell => k_is)
      (case l_law_cell => k_is)
      (case c_law_cell => k_is)
      (case k_law_cell => k_is)
      (case a_law_draws => k_is)
      (case l_law_draws => k_is)
      (case c_law_draws => k_is)
      (case k_law_draws => k_is)
      (case a_law_value => k_is)
      (case l_law_value => k_is)
      (case c_law_value => k_is)
      (case k_law_value => k_is)
      (case a_law_holds => k_is)
      (case l_law_holds => k_is)
      (case c_law_holds => k_is)
      (case k_law_holds => k_is)
      (case a_law_is_integer => k_is)
      (case l_law_is_integer => k_is)
      (case c_law_is_integer => k_is)
      (case k_law_is_integer => k_is)
      (case a_law_is_constraint => k_is)
      (case l_law_is_constraint => k_is)
      (case c_law_is_constraint => k_is)
      (case k_law_is_constraint => k_is)
      (case a_law_point => k_is)
      (case l_law_point => k_is)
      (case c_law_point => k_is)
      (case k_law_point => k_is)
      (case a_law_constraint => k_is)
      (case l_law_constraint => k_is)
      (case c_law_constraint => k_is)
      (case k_law_constraint => k_is)
      (case a_law => k_is)
      (case l_law => k_is)
      (case c_law => k_is)
      (case k_law => k_is)
      (case z_tuple => k_is)
      (case z_range => k_is)
      (case z_len => k_is)
      (case z_int => k_is)
      (case z_zip => k_is)
      (case z_isinstance => k_is)
      (case z_bool => k_is)
      (case z_list => k_is)
    subst e
    exact ⟨A.d_law, hb, fun base _ _ => K66.ok_law T⟩
