import PyProof.Rows.All
import Wide.All
import OpenK.AllK
import Wide.FinOn
import HandS.ForMost
import HandS.Zip
import HandS.Wide
import HandS.TupAny
import HandS.IsInst
import HandS.EndBits
import HandS.Walk
import HandS.More
import HandS.RaiseMore
import HandS.SetIn
import HandS.TupMul
import HandS.Gcd
import KE.KeyNested
import KE.DataMinMax
import HandS.SetKeys
import HandS.Property
import HandS.Codes
import PySem.Challenge.RW_loopworks_k81_elimination_of_conditions
set_option Elab.async false
set_option linter.all false
set_option maxRecDepth 100000
set_option maxHeartbeats 4000000
namespace Bs
open PySem L2

/-! ### loops as one word -/
def Loop (J : It) (g : TG) (tb : TS) (D : Ends) (σ : St) (H1 : Hp) : Prop := ∃ W : Nat → Nat → St → Hp → Prop, (∃ m, W 0 m σ H1) ∧ ∀ i m σ H, W i m σ H →
  (J.stop i H ∧ D.nx σ H) ∨ (J.go i H ∧ ∃ N : St → Hp → Prop, (∀ σ' H', N σ' H' → ∃ m', m' < m ∧ W (i + 1) m' σ' H') ∧ ∀ x H', J.yld i H x H' → g x σ H' fun σ2 H2 => tb { D with nx := N, ct := N, bk := D.nx } σ2 H2)
theorem for_eq (wi : TI) (g : TG) (tb : TS) (D : Ends) (σ : St) (H : Hp) : tFor wi g tb D σ H = wi σ H fun J H1 => Loop J g tb D σ H1 := rfl
def LoopC (J : It) (g : TG) (tt : TT) (te : TE) (vs : List Nat) (σ : St) (H1 : Hp) (D : Addr) (Qd : Hp → Prop) : Prop := ∃ W : Nat → Nat → Hp → Prop, (∃ m, W 0 m (upd H1 D (.lst []))) ∧ ∀ i m H, W i m H →
  (J.stop i H ∧ Qd H) ∨ (J.go i H ∧ ∃ Nx : Hp → Prop, (∀ H', Nx H' → ∃ m', m' < m ∧ W (i + 1) m' H') ∧ ∀ x H', J.yld i H x H' → g x (wipe σ vs) H' fun σ2 H2 => wipe σ2 vs = wipe σ vs ∧ tt σ2 H2 fun b H3 =>
    if b = true then te σ2 H3 fun y H4 => ∃ acc, H4 D = some (.lst acc) ∧ acc.length < sizeLine ∧ Nx (upd H4 D (.lst (acc ++ [y]))) else Nx H3)
theorem lc_eq (wi : TI) (g : TG) (tt : TT) (te : TE) (vs : List Nat) (σ : St) (H : Hp) (Q : VK) : tLc wi g tt te vs σ H Q = wi σ H fun J H1 => ∀ D, H1 D = none → LoopC J g tt te vs σ H1 D (fun H => Q (.ref D) H) := rfl
def LoopW (c : TT) (tb : TS) (D : Ends) (σ : St) (H : Hp) : Prop := tWhile c tb D σ H
theorem while_eq (c : TT) (tb : TS) (D : Ends) (σ : St) (H : Hp) : tWhile c tb D σ H = LoopW c tb D σ H := rfl

theorem test_eq (t : TE) (σ : St) (H : Hp) (Q : Bool → Hp → Prop) : tTest t σ H Q = t σ H fun x H' => ∃ k, x = .bl k ∧ Q k H' := rfl
theorem ex_bl {b : Bool} {Q : Bool → Prop} : (∃ k, V.bl b = .bl k ∧ Q k) = Q b := propext ⟨fun ⟨k, e, q⟩ => by cases e; exact q, fun q => ⟨b, rfl, q⟩⟩
theorem ex_int {i : Int} {Q : Int → Prop} : (∃ k, V.int i = .int k ∧ Q k) = Q i := propext ⟨fun ⟨k, e, q⟩ => by cases e; exact q, fun q => ⟨i, rfl, q⟩⟩

theorem cxK {CX : CXT} {P : Program} {w : World} {K : PySem.W.Frag} {mg : Str → Option Value} {base : Heap} {N : List Str} {qual : Str} {scope : Scope} {f : Addr} {cd : Value} {A : Around} {outer : List Env} {s : Shared} {H : Hp} {E : XK} : (cxOf CX P w K mg base N qual scope f cd A outer s H E).K = K := rfl
/-! ### sizes -/
def Sz (n : Nat) (x : Int) : Prop := x.natAbs < 2 ^ n
theorem Sz.mono {a b : Nat} {x : Int} (h : Sz a x) (l : a ≤ b) : Sz b x := Nat.lt_of_lt_of_le h (Nat.pow_le_pow_right (by decide) l)
theorem Sz.add {a : Nat} {x y : Int} (h : Sz a x) (k : Sz a y) : Sz (a + 1) (x + y) := by
  unfold Sz at *
  rw [Nat.pow_succ]
  omega
theorem Sz.sub {a : Nat} {x y : Int} (h : Sz a x) (k : Sz a y) : Sz (a + 1) (x - y) := by
  unfold Sz at *
  rw [Nat.pow_succ]
  omega
theorem Sz.mul {a b : Nat} {x y : Int} (h : Sz a x) (k : Sz b y) : Sz (a + b) (x * y) := wide_lt h k
theorem Sz.zero (a : Nat) : Sz a 0 := Nat.pow_pos (by decide)
theorem Sz.bits {n : Int} {b : Nat} (h : Builtin.Int.intBits n ≤ b) : Sz (b + 1) n := by
  unfold Sz
  unfold Builtin.Int.intBits at h
  by_cases e : n.natAbs = 0
  · rw [e]; exact Nat.pow_pos (by decide)
  · have l : n.natAbs < 2 ^ (n.natAbs.log2 + 1) := Nat.lt_log2_self
    refine Nat.lt_of_lt_of_le l (Nat.pow_le_pow_right (by decide) ?_)
    have en : (n == 0) = false := by
      rw [beq_eq_false_iff_ne]
      intro z
      subst z
      exact e rfl
    rw [en] at h
    have h' : n.natAbs.log2 + 1 ≤ b := h
    omega
def CMulX (i j : Int) : Prop := ∃ a b : Nat, Sz a i ∧ Sz b j ∧ a + b ≤ 100000000
theorem log2_le_of {n a : Nat} (h : n < 2 ^ a) : n.log2 ≤ a := by
  by_cases e : n = 0
  · subst e; exact Nat.zero_le _
  · exact Nat.le_of_lt ((Nat.log2_lt e).mpr h)
theorem CMulX.ok {i j : Int} (h : CMulX i j) : IntMulOk i j := by
  obtain ⟨a, b, ha, hb, hab⟩ := h
  have q : ∀ x : Int, Builtin.Int.intBits x ≤ x.natAbs.log2 + 1 := fun x => by
    unfold Builtin.Int.intBits
    split <;> omega
  have h1 := q i
  have h2 := q j
  have h3 := log2_le_of ha
  have h4 := log2_le_of hb
  have e : bitsLine = 134217728 := by decide
  unfold IntMulOk
  intro z
  rw [Bool.and_eq_true] at z
  have z2 := z.2
  unfold Builtin.Int.intTooBig at z2
  have z3 := of_decide_eq_true z2
  rw [e] at z3
  omega
theorem op_mulX {X : Cx} : OpR X (binaryOp .Mult) (rI CMulX fun i j => .int (i * j)) := opI fun _ _ _ _ _ _ _ hc q => PyProof.Rows.mul_int q hc.ok
/-! ### loops and comprehensions over a walk -/
theorem loop_it {J : It} {n : Nat} {G : Hp → Prop} {Y : Nat → Hp → V → Hp → Prop} (w : Walk J n G Y) {g : TG} {tb : TS} {D : Ends} {σ : St} {H : Hp} (Pv : Nat → St → Hp → Prop) (h0 : Pv 0 σ H) (hG : ∀ i σ H, i ≤ n → Pv i σ H → G H)
    (hs : ∀ i x σ H H', i < n → Pv i σ H → Y i H x H' → g x σ H' fun σ2 H2 => tb { D with nx := Pv (i + 1), ct := Pv (i + 1), bk := D.nx } σ2 H2) (hd : ∀ σ H, Pv n σ H → D.nx σ H) : Loop J g tb D σ H := for_it w Pv h0 hG hs hd
theorem loopc_it {J : It} {n : Nat} {G : Hp → Prop} {Y : Nat → Hp → V → Hp → Prop} (w : Walk J n G Y) {g : TG} {tt : TT} {te : TE} {vs : List Nat} {σ : St} {H1 : Hp} {D : Addr} {Qd : Hp → Prop} (Pv : Nat → Hp → Prop) (h0 : Pv 0 (upd H1 D (.lst []))) (hG : ∀ i H, i ≤ n → Pv i H → G H)
    (hs : ∀ i x H H', i < n → Pv i H → Y i H x H' → g x (wipe σ vs) H' fun σ2 H2 => wipe σ2 vs = wipe σ vs ∧ tt σ2 H2 fun b H3 =>
      if b = true then te σ2 H3 fun y H4 => ∃ acc, H4 D = some (.lst acc) ∧ acc.length < sizeLine ∧ Pv (i + 1) (upd H4 D (.lst (acc ++ [y]))) else Pv (i + 1) H3) (hd : ∀ H, Pv n H → Qd H) : LoopC J g tt te vs σ H1 D Qd := lc_it w Pv h0 hG hs hd
theorem same_upd {H : Hp} {p : Addr} {o : HO} (h : H p = none) : Same H (upd H p o) := fun b x e => by
  rw [upd_ne (ne_of_none e h)]
  exact e
theorem same_upd2 {H H' : Hp} {p : Addr} {o : HO} (e : Same H H') (h : H p = none) : Same H (upd H' p o) := fun b x q => by
  rw [upd_ne (ne_of_none q h)]
  exact e _ _ q
/-- [e for ..], without a test, whose element is told by the turn -/
theorem lc_pure {J : It} {n : Nat} {G : Hp → Prop} {Y : Nat → Hp → V → Hp → Prop} (w : Walk J n G Y) {g : TG} {te : TE} {vs : List Nat} {σ : St} {H1 : Hp} {D : Addr} {Qd : Hp → Prop} (f : Nat → V) (hD : H1 D = none) (hn : n ≤ 1000)
    (hG : ∀ H', Same H1 H' → G H') (hY : ∀ i H x H', Y i H x H' → Same H H')
    (hs : ∀ i x H H' (R : VK), i < n → Same H1 H' → Y i H x H' → (∀ H4, Same H' H4 → R (f i) H4) → g x (wipe σ vs) H' fun σ2 H2 => wipe σ2 vs = wipe σ vs ∧ te σ2 H2 R)
    (hd : ∀ H', Same H1 H' → H' D = some (.lst ((List.range n).map f)) → Qd H') : LoopC J g tYes te vs σ H1 D Qd := by
  refine loopc_it w (fun i H => Same H1 H ∧ H D = some (.lst ((List.range i).map f))) ⟨same_upd hD, upd_same⟩ (fun i H _ p => hG H p.1) (fun i x H H' hi p y => ?_) (fun H p => hd H p.1 p.2)
  have hYs := hY _ _ _ _ y
  have q := hs i x H H' (fun y H4 => ∃ acc, H4 D = some (.lst acc) ∧ acc.length < sizeLine ∧ (Same H1 (upd H4 D (.lst (acc ++ [y]))) ∧ upd H4 D (.lst (acc ++ [y])) D = some (.lst ((List.range (i + 1)).map f)))) hi (p.1.trans hYs) y (fun H4 s4 => ?_)
  · exact q
  · refine ⟨_, s4 _ _ (hYs _ _ p.2), ?_, same_upd2 (p.1.trans (hYs.trans s4)) hD, ?_⟩
    · rw [List.length_map, List.length_range]
      exact small1000 (by omega)
    · rw [upd_same, List.range_succ, List.map_append]
      rfl
theorem range_getD {α : Type} (d : α) : ∀ ys : List α, (List.range ys.length).map (fun i => ys[i]?.getD d) = ys := fun ys => by
  refine List.ext_getElem? fun i => ?_
  rw [List.getElem?_map]
  by_cases h : i < ys.length
  · rw [List.getElem?_range h, List.getElem?_eq_getElem h]
    simp [h]
  · rw [List.getElem?_eq_none (by rw [List.length_range]; omega), List.getElem?_eq_none (by omega)]
    rfl
/-- the same by the list that comes out -/
theorem lc_ys {J : It} {n : Nat} {G : Hp → Prop} {Y : Nat → Hp → V → Hp → Prop} (w : Walk J n G Y) {g : TG} {te : TE} {vs : List Nat} {σ : St} {H1 : Hp} {D : Addr} {Qd : Hp → Prop} (ys : List V) (hD : H1 D = none) (hn : n ≤ 1000) (hl : ys.length = n)
    (hG : ∀ H', Same H1 H' → G H') (hY : ∀ i H x H', Y i H x H' → Same H H')
    (hs : ∀ i x y H H' (R : VK), i < n → ys[i]? = some y → Same H1 H' → Y i H x H' → (∀ H4, Same H' H4 → R y H4) → g x (wipe σ vs) H' fun σ2 H2 => wipe σ2 vs = wipe σ vs ∧ te σ2 H2 R)
    (hd : ∀ H', Same H1 H' → H' D = some (.lst ys) → Qd H') : LoopC J g tYes te vs σ H1 D Qd := by
  refine lc_pure w (fun i => ys[i]?.getD .non) hD hn hG hY (fun i x H H' R hi s1 y k => ?_) (fun H' s' e => hd H' s' ?_)
  · have hy : ys[i]? = some (ys[i]?.getD .non) := by
      rw [List.getElem?_eq_getElem (by omega)]
      rfl
    exact hs i x _ H H' R hi hy s1 y k
  · rw [← hl, range_getD] at e
    exact e
theorem walk_zipT {K : PySem.W.Frag} {a b : Addr} {xs ys : List V} {n : Nat} (hn : n = min xs.length ys.length) : Walk (RZ.ItzT K a b) n (fun H => SqT K H a xs ∧ SqT K H b ys) (YPair (fun i => xs[i]?) (fun i => ys[i]?)) := by
  subst hn
  refine ⟨fun i _ hi q => ?_, fun _ q => ⟨xs, ys, q.1, q.2, by omega⟩, fun i H v H' _ q y => ?_⟩
  · have h1 : i < xs.length := by omega
    have h2 : i < ys.length := by omega
    exact ⟨xs, ys, xs[i], ys[i], q.1, q.2, by simp [h1], by simp [h2]⟩
  · obtain ⟨T, x, z, h1, h2, h3, h4, h5⟩ := y
    exact ⟨T, x, z, h1, h2, h3, h4 xs q.1, h5 ys q.2⟩
theorem ypair_same {xs ys : Nat → Option V} : ∀ (i : Nat) (H : Hp) (x : V) (H' : Hp), YPair xs ys i H x H' → Same H H' := fun i H x H' ⟨T, _, _, _, n, e, _⟩ => by
  subst e
  exact same_upd n
theorem yat_same {xs : List V} : ∀ (i : Nat) (H : Hp) (x : V) (H' : Hp), YAt xs i H x H' → Same H H' := fun i H x H' ⟨e, _⟩ => by
  subst e
  exact Same.refl _
theorem yfn_same {f : Nat → V} : ∀ (i : Nat) (H : Hp) (x : V) (H' : Hp), YFn f i H x H' → Same H H' := fun i H x H' ⟨e, _⟩ => by
  subst e
  exact Same.refl _
theorem sameT {K : PySem.W.Frag} {H H' : Hp} {a : Addr} {xs : List V} (e : Same H H') (h : SqT K H a xs) : SqT K H' a xs := by
  rcases h with (h | ⟨o, h⟩) | h
  · exact .inl (.inl (e _ _ h))
  · exact .inl (.inr ⟨o, e _ _ h⟩)
  · exact .inr h
theorem scal_ii (a b : Int) : scal (.int a) (.int b) = true := rfl
theorem scal_ss (a b : Str) : scal (.str a) (.str b) = true := rfl
theorem scal_bb (a b : Bool) : scal (.bl a) (.bl b) = true := rfl
theorem dec_ii (a b : Int) : decide (V.int a = V.int b) = decide (a = b) := decide_eq_decide.mpr (by rw [V.int.injEq])
theorem dec_ss (a b : Str) : decide (V.str a = V.str b) = decide (a = b) := decide_eq_decide.mpr (by rw [V.str.injEq])
theorem dec_bb (a b : Bool) : decide (V.bl a = V.bl b) = decide (a = b) := decide_eq_decide.mpr (by rw [V.bl.injEq])
theorem walk_range0 {n : Nat} : Walk (Itr 0 n) n (fun _ => True) (fun i H x H' => H' = H ∧ x = V.int ((i : Nat) : Int)) :=
  ⟨fun _ _ hi _ => hi, fun _ _ => Nat.le_refl _, fun _ _ _ _ _ _ y => ⟨y.1, by rw [y.2, Int.zero_add]⟩⟩
theorem yat_at {xs : List V} {i : Nat} {H H' : Hp} {x : V} (y : YAt xs i H x H') : H' = H ∧ xs[i]? = some x := y
theorem isi {K : PySem.W.Frag} {H : Hp} {x : V} {a b : String} {r : Bool} {Q : VK} (ty : TyX K H x (.type a)) (hk : kitB a b = some r) (q : Q (.bl r) H) : rIsi K [x, .ty b] H Q :=
  ⟨x, .ty b, .type a, .type b, r, rfl, .ty b, ty, kit_ty hk, q⟩
theorem ty_int {K : PySem.W.Frag} {H : Hp} {i : Int} : TyX K H (.int i) (.type "int") := .base (.int i)
theorem ty_bl {K : PySem.W.Frag} {H : Hp} {i : Bool} : TyX K H (.bl i) (.type "bool") := .base (.bl i)
theorem ty_str {K : PySem.W.Frag} {H : Hp} {i : Str} : TyX K H (.str i) (.type "str") := .base (.str i)
theorem ty_tup {K : PySem.W.Frag} {H : Hp} {a : Addr} {xs : List V} (h : SqT K H a xs) : TyX K H (.ref a) (.type "tuple") := by
  rcases h with (h | ⟨o, h⟩) | ⟨o, _, _, h, c, _⟩
  · exact .base (.tup h)
  · exact .fTuple h
  · exact .kTuple h c
theorem ty_lst {K : PySem.W.Frag} {H : Hp} {a : Addr} {xs : List V} (h : SqL K H a xs) : TyX K H (.ref a) (.type "list") := by
  rcases h with (h | ⟨o, h⟩) | ⟨o, _, _, h, c, _⟩
  · exact .base (.lst h)
  · exact .base (.frz h)
  · exact .kList h c
theorem sqT_upd {K : PySem.W.Frag} {H : Hp} {p b : Addr} {o : HO} {xs ys : List V} (hp : H p = some (.lst xs)) (h : SqT K H b ys) : SqT K (upd H p o) b ys := by
  rcases h with (h | ⟨o, h⟩) | h
  · exact .inl (.inl (by rw [upd_ne (ne_of h hp (by intro z; cases z))]; exact h))
  · exact .inl (.inr ⟨o, by rw [upd_ne (ne_of h hp (by intro z; cases z))]; exact h⟩)
  · exact .inr h
end Bs
namespace Bs
open PySem L2 TL

/-! ### texts -/
theorem call_str_any {X : Cx} : CallR X (.type "str") (fun xs H Q => (∃ i, xs = [.int i] ∧ i.natAbs.log2 < 1920 ∧ Q (.str (toString i)) H) ∨ ∃ a, xs = [.str a] ∧ Q (.str a) H) := by
  intro pins s σ H xs us Q I r h
  rcases h with h | h
  · exact call_str_int pins s σ H xs us Q I r h
  · exact SkE.call_str_str pins s σ H xs us Q I r h
theorem call_intI {X : Cx} : CallR X (.type "int") (fun xs H Q => ∃ i, xs = [.int i] ∧ Q (.int i) H) := by
  intro pins s σ H xs us Q I r h
  exact call_int1 pins s σ H xs us Q I r (.inl h)
/-- z repeated n times -/
def rep (z : Str) (n : Nat) : Str := ⟨((List.replicate n (tl z)).flatten).toArray⟩
theorem tl_rep (z : Str) (n : Nat) : tl (rep z n) = (List.replicate n (tl z)).flatten := rfl
theorem rep_len (z : Str) (n : Nat) : (rep z n).length = z.length * n := by
  rw [len_tl, len_tl, tl_rep, List.length_flatten, List.map_replicate]
  generalize (tl z).length = k
  induction n with
  | zero => rfl
  | succ n ih => rw [List.replicate_succ, List.sum_cons, ih, Nat.mul_succ]; omega
theorem foldl_app (l : List (Array Nat)) : ∀ a : Array Nat, (l.foldl (· ++ ·) a).toList = a.toList ++ (l.map Array.toList).flatten := by
  induction l with
  | nil => intro a; simp
  | cons x r ih => intro a; simp [ih, List.append_assoc]
theorem mul_rep (z : Str) (n : Nat) : Txt.mul z (n : Int) = rep z n := by
  refine ext_tl ?_
  rw [tl_rep]
  unfold Txt.mul
  by_cases h1 : ((n : Nat) : Int) < 1
  · have e : n = 0 := by omega
    subst e
    rw [if_pos h1]
    rfl
  · rw [if_neg h1]
    split
    · rename_i h2
      rw [Bool.or_eq_true, beq_iff_eq, beq_iff_eq] at h2
      rcases h2 with h2 | h2
      · have e : n = 1 := by omega
        subst e
        simp
      · have e : tl z = [] := (len0_tl z).mp h2
        rw [e]
        simp
    · show (List.foldl (· ++ ·) #[] (List.replicate ((n : Int)).toNat z.cps)).toList = _
      rw [foldl_app, Int.toNat_natCast, List.map_replicate]
      rfl
def rRepS : R2 := fun x y H Q => ∃ (z : Str) (n : Nat), x = .str z ∧ y = .int (n : Int) ∧ z.length ≤ 1000 ∧ n ≤ 1000 ∧ Q (.str (rep z n)) H
theorem op_repS {X : Cx} : OpR X (binaryOp .Mult) rRepS := by
  intro pins s σ H x y v u Q I rx ry h
  obtain ⟨z, n, rfl, rfl, hz, hn, q⟩ := h
  obtain ⟨t, rfl⟩ := rx
  obtain ⟨t', rfl⟩ := ry
  refine SB.mul (n := (n : Int)) ⟨?_, fun h1 _ => ?_, fun h1 _ => ?_⟩ fun t1 k => ⟨.str (rep z n), H, I.tok k, ⟨t1, by rw [mul_rep]⟩, q⟩
  · rw [Bool.or_eq_false_iff]
    constructor <;> rw [decide_eq_false_iff_not] <;> omega
  · have hn1 : 1 ≤ (n : Int) := by omega
    have h2 : (1000 : Int) ≤ (2 ^ 63 - 1) / (n : Int) := by
      rw [Int.le_ediv_iff_mul_le (by omega)]
      omega
    omega
  · show decide (z.length * ((n : Int)).toNat > sizeLine) = false
    have hm : z.length * n ≤ 1000 * 1000 := Nat.mul_le_mul hz hn
    rw [Int.toNat_natCast]
    exact decide_eq_false (by have : (1000 * 1000 : Nat) < sizeLine := by decide
                              omega)
theorem len_app (x y : Str) : (x ++ y).length = x.length + y.length := Str.length_append x y
/-- the texts of a list, one behind the other -/
def flat (ps : List Str) : Str := Str.join Str.empty ps
theorem tl_flat (ps : List Str) : tl (flat ps) = (ps.map tl).flatten := by
  unfold flat
  rw [tl_join]
  show joinL [] (ps.map tl) = _
  generalize ps.map tl = l
  induction l with
  | nil => rfl
  | cons x r ih =>
    cases r with
    | nil => simp [joinL]
    | cons y r => rw [joinL, ih]; simp
theorem flat_snoc (ps : List Str) (x : Str) : flat (ps ++ [x]) = flat ps ++ x := by
  refine ext_tl ?_
  rw [tl_append, tl_flat, tl_flat]
  simp
theorem flat_len (ps : List Str) : (ps.map (·.length)).sum = (flat ps).length := by
  rw [len_tl, tl_flat, List.length_flatten, List.map_map]
  congr 1
theorem join_flat (e : Str) (h : tl e = []) (ps : List Str) : Txt.join e ps = flat ps := by
  rw [join_eq]
  refine ext_tl ?_
  rw [tl_join, tl_flat, h]
  generalize ps.map tl = l
  induction l with
  | nil => rfl
  | cons x r ih =>
    cases r with
    | nil => simp [joinL]
    | cons y r => rw [joinL, ih]; simp

theorem cut_take (z : Str) (n : Nat) : tl (cutS z none (some (n : Int))) = (tl z).take n := by
  show ((tl z).drop (HT.sIx z.length 0 none)).take (HT.sIx z.length z.length (some (n : Int)) - HT.sIx z.length 0 none) = _
  rw [HT.sIx_none, HT.sIx_nat, List.drop_zero, Nat.sub_zero, len_tl]
  by_cases h : n ≤ (tl z).length
  · rw [Nat.min_eq_left h]
  · rw [Nat.min_eq_right (by omega), List.take_of_length_le (Nat.le_refl _), List.take_of_length_le (by omega)]
theorem cut_drop (z : Str) (n : Nat) : tl (cutS z (some (n : Int)) none) = (tl z).drop n := by
  show ((tl z).drop (HT.sIx z.length 0 (some (n : Int)))).take (HT.sIx z.length z.length none - HT.sIx z.length 0 (some (n : Int))) = _
  rw [HT.sIx_none, HT.sIx_nat, len_tl]
  by_cases h : n ≤ (tl z).length
  · rw [Nat.min_eq_left h, List.take_of_length_le (by rw [List.length_drop]; omega)]
  · rw [Nat.min_eq_right (by omega), Nat.sub_self, List.take_zero, List.drop_eq_nil_of_le (by omega)]
theorem tl1 (c : Nat) : tl ⟨#[c]⟩ = [c] := rfl
theorem sum_ones {α : Type} : ∀ l : List α, (l.map fun _ => 1).sum = l.length
  | [] => rfl
  | x :: l => by
    rw [List.map_cons, List.sum_cons, sum_ones l, List.length_cons]
    omega
theorem sgn_inj {a b : Nat} (h : (⟨#[a]⟩ : Str) = ⟨#[b]⟩) : a = b := by
  have e := congrArg tl h
  rw [tl1, tl1] at e
  exact List.head_eq_of_cons_eq e
theorem sgn_eq (a b : Nat) : ((⟨#[a]⟩ : Str) = ⟨#[b]⟩) = (a = b) := propext ⟨sgn_inj, fun h => by rw [h]⟩
/-! ### a while, by a word with its measure -/
def Turn (W : Nat → St → Hp → Prop) (m : Nat) (tb : TS) (D : Ends) (σ : St) (H : Hp) : Prop := ∃ N : St → Hp → Prop, (∀ σ' H', N σ' H' → ∃ m', m' < m ∧ W m' σ' H') ∧ tb { D with nx := N, ct := N, bk := D.nx } σ H
theorem turn_of {W : Nat → St → Hp → Prop} {m : Nat} {tb : TS} {D : Ends} {σ : St} {H : Hp} (h : tb { D with nx := fun σ' H' => ∃ m', m' < m ∧ W m' σ' H', ct := fun σ' H' => ∃ m', m' < m ∧ W m' σ' H', bk := D.nx } σ H) : Turn W m tb D σ H := ⟨_, fun _ _ h => h, h⟩
theorem loopw {c : TT} {tb : TS} {D : Ends} {σ : St} {H : Hp} (W : Nat → St → Hp → Prop) (m : Nat) (h0 : W m σ H) (hs : ∀ m σ H, W m σ H → c σ H fun b H1 => if b = true then Turn W m tb D σ H1 else D.nx σ H1) : LoopW c tb D σ H := ⟨W, ⟨m, h0⟩, hs⟩
theorem cut_mid (z : Str) (i k : Nat) : tl (cutS z (some (i : Int)) (some ((i : Int) + (k : Int)))) = ((tl z).drop i).take k := by
  have e : (i : Int) + (k : Int) = ((i + k : Nat) : Int) := by omega
  rw [e]
  show ((tl z).drop (HT.sIx z.length 0 (some (i : Int)))).take (HT.sIx z.length z.length (some ((i + k : Nat) : Int)) - HT.sIx z.length 0 (some (i : Int))) = _
  rw [HT.sIx_nat, HT.sIx_nat, len_tl]
  by_cases h : i ≤ (tl z).length
  · rw [Nat.min_eq_left h]
    by_cases h2 : i + k ≤ (tl z).length
    · rw [Nat.min_eq_left h2, Nat.add_sub_cancel_left]
    · rw [Nat.min_eq_right (by omega)]
      rw [List.take_of_length_le (by rw [List.length_drop]; omega), List.take_of_length_le (by rw [List.length_drop]; omega)]
  · rw [Nat.min_eq_right (by omega), Nat.min_eq_right (by omega), Nat.sub_self, List.take_zero, List.drop_eq_nil_of_le (by omega), List.take_nil]
/-! ### a list's item at an open place -/
theorem atI_in {α : Type} {xs : List α} {i : Int} (h0 : 0 ≤ i) (h1 : i < xs.length) : ∃ x, atI xs i = some x ∧ x ∈ xs := by
  obtain ⟨n, rfl⟩ : ∃ n : Nat, i = (n : Int) := ⟨i.toNat, by omega⟩
  have hn : n < xs.length := by omega
  exact ⟨xs[n], atI_nat (List.getElem?_eq_getElem hn), List.getElem_mem hn⟩

/-! ### v in a list of texts -/
theorem inV_str (v : Str) : ∀ l : List Str, inV (.str v) (l.map V.str) = decide (v ∈ l)
  | [] => rfl
  | x :: l => by
    show (eqV (.str x) (.str v) || inV (.str v) (l.map V.str)) = _
    rw [inV_str v l]
    show (decide (x = v) || _) = _
    rw [← Bool.decide_or]
    refine decide_eq_decide.mpr ?_
    rw [List.mem_cons]
    constructor
    · rintro (h | h)
      · exact .inl h.symm
      · exact .inr h
    · rintro (h | h)
      · exact .inl h.symm
      · exact .inr h
theorem flat_strs : ∀ zs : List Str, (zs.map V.str).all flatV = true
  | [] => rfl
  | _ :: zs => flat_strs zs
theorem rin {K : PySem.W.Frag} {H : Hp} {p : Addr} (zs : List Str) {v : Str} {Q : VK} (h : SqL K H p (zs.map V.str) ∨ SqT K H p (zs.map V.str)) (q : Q (.bl (decide (v ∈ zs))) H) : rIn K false (.str v) (.ref p) H Q :=
  ⟨p, zs.map V.str, rfl, h, rfl, flat_strs zs, by rw [inV_str]; exact q⟩
theorem rnin {K : PySem.W.Frag} {H : Hp} {p : Addr} (zs : List Str) {v : Str} {Q : VK} (h : SqL K H p (zs.map V.str) ∨ SqT K H p (zs.map V.str)) (q : Q (.bl (!decide (v ∈ zs))) H) : rIn K true (.str v) (.ref p) H Q :=
  ⟨p, zs.map V.str, rfl, h, rfl, flat_strs zs, by rw [inV_str]; exact q⟩
/-! ### the law's stream of numbers: a list of two lists -/
structure Stm (H : Hp) (st d p : Addr) : Prop where
  at_ : H st = some (.lst [.ref d, .ref p])
  dg : ∃ ds : List Int, H d = some (.lst (ds.map V.int)) ∧ ds ≠ []
  pl : ∃ i : Int, H p = some (.lst [.int i])
  n1 : st ≠ p
  n2 : d ≠ p
/-- all but what stands at p is as it was -/
structure Stp (p : Addr) (H H' : Hp) : Prop where
  keep : ∀ b o, b ≠ p → H b = some o → H' b = some o
  pl : ∃ i : Int, H' p = some (.lst [.int i])
theorem Stp.trans {p : Addr} {H H1 H2 : Hp} (a : Stp p H H1) (b : Stp p H1 H2) : Stp p H H2 := ⟨fun c o n e => b.keep c o n (a.keep c o n e), b.pl⟩
theorem Stm.step {H H' : Hp} {st d p : Addr} (x : Stm H st d p) (e : Stp p H H') : Stm H' st d p :=
  ⟨e.keep _ _ x.n1 x.at_, let ⟨ds, h, n⟩ := x.dg; ⟨ds, e.keep _ _ x.n2 h, n⟩, e.pl, x.n1, x.n2⟩
theorem Stm.refl {H : Hp} {st d p : Addr} (x : Stm H st d p) : Stp p H H := ⟨fun _ _ _ e => e, x.pl⟩
theorem Stm.same {H H' : Hp} {st d p : Addr} (x : Stm H st d p) (e : Same H H') : Stp p H H' := ⟨fun b o _ h => e b o h, let ⟨i, h⟩ := x.pl; ⟨i, e _ _ h⟩⟩
theorem Stp.same {p : Addr} {H H1 H2 : Hp} (a : Stp p H H1) (e : Same H1 H2) : Stp p H H2 := ⟨fun b o n h => e _ _ (a.keep b o n h), let ⟨i, h⟩ := a.pl; ⟨i, e _ _ h⟩⟩
theorem Stp.tup {p : Addr} {H H' : Hp} {b : Addr} {xs : List V} (a : Stp p H H') {i : Int} (hp : H p = some (.lst [.int i])) (h : H b = some (.tup xs)) : H' b = some (.tup xs) :=
  a.keep b _ (ne_of h hp (by intro z; cases z)) h
theorem Stp.sqT {K : PySem.W.Frag} {p : Addr} {H H' : Hp} {b : Addr} {xs : List V} (a : Stp p H H') {i : Int} (hp : H p = some (.lst [.int i])) (h : SqT K H b xs) : SqT K H' b xs := by
  rcases h with (h | ⟨o, h⟩) | h
  · exact .inl (.inl (a.tup hp h))
  · exact .inl (.inr ⟨o, a.keep _ _ (ne_of h hp (by intro z; cases z)) h⟩)
  · exact .inr h
theorem Stp.free {p : Addr} {H H' : Hp} (a : Stp p H H') {b : Addr} (h : H' b = none) (n : b ≠ p) : H b = none := by
  cases e : H b with
  | none => rfl
  | some o =>
    have h2 := a.keep _ _ n e
    rw [h] at h2
    cases h2
theorem Stp.ne {p : Addr} {H H' : Hp} (a : Stp p H H') {b : Addr} (h : H' b = none) : b ≠ p := by
  obtain ⟨i, e⟩ := a.pl
  exact (ne_of_none e h).symm
/-- what is put at a new place behind a step -/
theorem Stp.upd {p : Addr} {H H' : Hp} (a : Stp p H H') {b : Addr} {o : HO} (h : H b = none) (n : b ≠ p) : Stp p H (upd H' b o) :=
  ⟨fun c u nc e => by rw [upd_ne (ne_of_none e h)]; exact a.keep _ _ nc e, let ⟨i, e⟩ := a.pl; ⟨i, by rw [upd_ne n.symm]; exact e⟩⟩
/-- p was free before: then nothing that stood is changed -/
theorem Stp.fresh {p : Addr} {H0 H H' : Hp} (a : Stp p H H') (s : Same H0 H) (h : H0 p = none) : Same H0 H' := fun b o e => a.keep b o (ne_of_none e h) (s b o e)
end Bs
namespace Bs
open PySem L2 TL PySem.Spec PyProof.Rows

/-! ### tuple * int, also 0 and 1 times -/
theorem tuple_mul0 (l : Addr) (items : Array Value) (n : Nat) (dd : Option Addr) (sl : Array (Option Value)) (u : Tok) (c1 : (items.isEmpty || (0 : Int) == 1) = false) :
    Meets (Builtin.«tuple.__mul__» ⟨[.ref l, .int 0 u], []⟩) (fun _ R s => s.heap.get? l = some { cls := .type "tuple", dict := dd, data := .seq items n, slots := sl } ∧
      R (.ok (.ret (Value.ref s.heap.objs.size))) { s with heap := s.heap.push { cls := Value.type "tuple", data := Data.seq #[] }, toks := s.toks }) :=
  .of_wp fun prog w A R s h => by
    obtain ⟨hp, g, d, tk, os⟩ := s
    obtain ⟨hl, h⟩ := h
    have f1 := AutoSeq1.idx_int
    wp_walk using AutoSeq1.wpAny_loadPart' hl
    repeat (first
      | (refine wpAny_ite_false (decide_eq_false (by decide)) ?_; wp_walk using AutoSeq1.wpAny_loadPart' hl)
      | (refine wpAny_ite_false (decide_eq_false (by rw [c1]; exact Bool.false_ne_true)) ?_; wp_walk using AutoSeq1.wpAny_loadPart' hl))
    exact ⟨_, rfl, h⟩
theorem tuple_mul1 (l : Addr) (items : Array Value) (n : Nat) (dd : Option Addr) (sl : Array (Option Value)) (u : Tok) (c1 : (items.isEmpty || (1 : Int) == 1) = true) :
    Meets (Builtin.«tuple.__mul__» ⟨[.ref l, .int 1 u], []⟩) (fun _ R s => s.heap.get? l = some { cls := .type "tuple", dict := dd, data := .seq items n, slots := sl } ∧
      R (.ok (.ret (Value.ref l))) s) :=
  .of_wp fun prog w A R s h => by
    obtain ⟨hp, g, d, tk, os⟩ := s
    obtain ⟨hl, h⟩ := h
    have f1 := AutoSeq1.idx_int
    wp_walk using AutoSeq1.wpAny_loadPart' hl
    repeat (first
      | (refine wpAny_ite_true (decide_eq_true (by rw [c1])) ?_; wp_walk using AutoSeq1.wpAny_loadPart' hl)
      | (refine wpAny_ite_false (decide_eq_false (by decide)) ?_; wp_walk using AutoSeq1.wpAny_loadPart' hl))
    exact ⟨_, rfl, h⟩
def rRepA (K : PySem.W.Frag) : R2 := fun x y H Q => ∃ (l : Addr) (k : Nat) (xs : List V), x = .ref l ∧ y = .int (k : Int) ∧ SqT K H l xs ∧ xs ≠ [] ∧ k ≤ 1000 ∧ xs.length ≤ 1000 ∧ ∀ H' p, Same H H' → SqT K H' p (List.replicate k xs).flatten → Q (.ref p) H'
section
variable {X : Cx}
theorem op_repA : OpR X (binaryOp .Mult) (rRepA X.K) := by
  intro pins s σ H x y v u Q I rx ry h
  obtain ⟨l, k, xs, rfl, rfl, hT, hne, h2, hz, q⟩ := h
  by_cases hk : 2 ≤ k
  · exact op_repT pins s σ H _ _ v u Q I rx ry ⟨l, _, xs, rfl, rfl, hT, hne, by omega, by omega, hz, fun p np => q _ p (same_upd np) (by rw [Int.toNat_natCast]; exact SqT.of upd_same)⟩
  · cases rx
    obtain ⟨t, rfl⟩ := ry
    obtain ⟨its, r, ⟨⟨cls, dd, data, sl⟩, ho, hc, n, hd⟩, hs⟩ := I.tuple hT
    simp only at hc hd
    subst hc hd
    have hle : its.length = xs.length := r.length.symm
    have hn : its ≠ [] := fun e => hne (by
      rw [e] at hle
      exact List.eq_nil_of_length_eq_zero hle.symm)
    have hi : its.toArray.isEmpty = false := by
      cases its with
      | nil => exact absurd rfl hn
      | cons a b => rfl
    by_cases hk0 : k = 0
    · subst hk0
      have c1 : (its.toArray.isEmpty || (0 : Int) == 1) = false := by rw [hi]; rfl
      refine wpAny_binaryOp_repeat_ref (T := "tuple") (U := "int") (by decide) ⟨_, ho, rfl⟩ (fun s' => typeIs_int s' _ t) noFill_tuple_mul F.fills_int_mul F.slot_int_rmul repeat_tuple F.slot_int_index.lookup
        (call_meets F.slot_int_rmul (typeIs_int s _ t) F.entry_int_rmul (F.args_int_rmul_2 _ _) (L2.int_rmul_tuple _ t l its.toArray n dd sl)
          ⟨ho, rfl, ⟨_, ho, rfl⟩, call_meets F.slot_tuple_mul ⟨_, ho, rfl⟩ F.entry_tuple_mul (F.args_tuple_mul_2 _ _) (tuple_mul0 l its.toArray n dd sl t c1) ⟨ho, ?_⟩⟩)
      refine ⟨.ref s.heap.objs.size, _, I.laid (t' := s.toks) (o := .tup []) (fun b ob q => Heap.get?_push_of_some _ q) (Nat.le_refl _) ?_, rfl, q _ _ (same_upd (I.hok.fresh (Nat.le_refl _))) (SqT.of upd_same)⟩
      exact ⟨Nat.zero_le _, [], .nil, IsTup.new _ _⟩
    · have hk1 : k = 1 := by omega
      subst hk1
      have c1 : (its.toArray.isEmpty || (1 : Int) == 1) = true := by rw [hi]; rfl
      refine wpAny_binaryOp_repeat_ref (T := "tuple") (U := "int") (by decide) ⟨_, ho, rfl⟩ (fun s' => typeIs_int s' _ t) noFill_tuple_mul F.fills_int_mul F.slot_int_rmul repeat_tuple F.slot_int_index.lookup
        (call_meets F.slot_int_rmul (typeIs_int s _ t) F.entry_int_rmul (F.args_int_rmul_2 _ _) (L2.int_rmul_tuple _ t l its.toArray n dd sl)
          ⟨ho, rfl, ⟨_, ho, rfl⟩, call_meets F.slot_tuple_mul ⟨_, ho, rfl⟩ F.entry_tuple_mul (F.args_tuple_mul_2 _ _) (tuple_mul1 l its.toArray n dd sl t c1) ⟨ho, ?_⟩⟩)
      refine ⟨.ref l, H, I, rfl, q _ _ (Same.refl _) ?_⟩
      rw [show (List.replicate 1 xs).flatten = xs by simp]
      exact hT
end
/-! ### tuples of ints: without the last, with one more -/
theorem sIx_m1 (n : Nat) : HT.sIx (n + 1) (n + 1) (some (-1)) = n := by
  show (if (-1 : Int) < 0 then ((-1 : Int) + ((n + 1 : Nat) : Int)).toNat else min (-1 : Int).toNat (n + 1)) = n
  rw [if_pos (by decide)]
  omega
theorem sl_init {K : PySem.W.Frag} {H : Hp} {a : Addr} {xs : List V} {x : V} {Q : VK} (h : SqT K H a (xs ++ [x])) (q : ∀ H' p, Same H H' → SqT K H' p xs → Q (.ref p) H') : rSlA K (.ref a) none (some (-1)) H Q := by
  refine ⟨a, _, rfl, h, fun z => ?_, fun _ p np => q _ p (same_upd np) ?_⟩
  · have z2 := z.2
    rw [List.length_append, List.length_singleton, sIx_m1] at z2
    omega
  · have ec : cutV (xs ++ [x]) none (some (-1)) = xs := by
      unfold cutV
      rw [HT.sIx_none, List.drop_zero, List.length_append, List.length_singleton, sIx_m1, Nat.sub_zero, List.take_append_of_le_length (Nat.le_refl _), List.take_of_length_le (Nat.le_refl _)]
    rw [ec]
    exact SqT.of upd_same
theorem cat_sm {K : PySem.W.Frag} {H : Hp} {a b : Addr} {xs ys : List V} {Q : VK} (h : SqT K H a xs) (h2 : SqT K H b ys) (hl : xs.length + ys.length ≤ 100000) (q : ∀ H' p, Same H H' → SqT K H' p (xs ++ ys) → Q (.ref p) H') : rCatA K (.ref a) (.ref b) H Q := by
  refine ⟨a, b, xs, ys, rfl, rfl, h, h2, Nat.le_trans hl (by decide), fun z => ?_, fun _ z => ?_, fun _ _ p np => q _ p (same_upd np) (SqT.of upd_same)⟩
  · subst z
    exact q H b (Same.refl _) h2
  · subst z
    rw [List.append_nil] at q
    exact q H a (Same.refl _) h
theorem atI_lastI {xs : List Int} {x : Int} : atI ((xs ++ [x]).map V.int) (-1) = some (V.int x) := by
  rw [List.map_append]
  exact atI_last _ _
theorem kit_self {K : PySem.W.Frag} {C : Addr} : PySem.W.kitOne K (.ref C) (.ref C) = some true := by
  unfold PySem.W.kitOne
  rw [show (Value.ref C == Value.ref C) = true from beq_self_eq_true _, if_pos rfl]
/-! ### comprehensions over tuples and lists -/
theorem lc_yat {J : It} {n : Nat} {G : Hp → Prop} {xs : List V} (w : Walk J n G (YAt xs)) (hl : xs.length = n) {g : TG} {te : TE} {vs : List Nat} {σ : L2.St} {H1 : Hp} {D : Addr} {Qd : Hp → Prop} (f : V → V) (hD : H1 D = none) (hn : n ≤ 1000)
    (hG : ∀ H', Same H1 H' → G H')
    (hs : ∀ x H' (R : VK), x ∈ xs → Same H1 H' → (∀ H4, Same H' H4 → R (f x) H4) → g x (wipe σ vs) H' fun σ2 H2 => wipe σ2 vs = wipe σ vs ∧ te σ2 H2 R)
    (hd : ∀ H', Same H1 H' → H' D = some (.lst (xs.map f)) → Qd H') : LoopC J g tYes te vs σ H1 D Qd := by
  refine lc_ys w (xs.map f) hD hn (by rw [List.length_map, hl]) hG yat_same (fun i x y H1 H2 R hi hy s1 yy k => ?_) hd
  obtain ⟨rfl, e⟩ := yat_at yy
  rw [List.getElem?_map, e] at hy
  cases hy
  exact hs x _ R (List.mem_of_getElem? e) s1 k
theorem lc_tupI {K : PySem.W.Frag} {a : Addr} {xs : List Int} {g : TG} {te : TE} {vs : List Nat} {σ : L2.St} {H1 : Hp} {D : Addr} {Qd : Hp → Prop} (f : Int → Int) (hX : SqT K H1 a (xs.map V.int)) (hD : H1 D = none) (hn : xs.length ≤ 1000)
    (hs : ∀ x H' (R : VK), x ∈ xs → Same H1 H' → (∀ H4, Same H' H4 → R (.int (f x)) H4) → g (.int x) (wipe σ vs) H' fun σ2 H2 => wipe σ2 vs = wipe σ vs ∧ te σ2 H2 R)
    (hd : ∀ H', Same H1 H' → H' D = some (.lst ((xs.map f).map V.int)) → Qd H') : LoopC (Itt K a) g tYes te vs σ H1 D Qd := by
  refine lc_yat (walk_tup (xs := xs.map V.int)) rfl (fun v => match v with | .int x => .int (f x) | v => v) hD (by rw [List.length_map]; exact hn) (fun H' s => sameT s hX) (fun x H' R hx s1 k => ?_) (fun H' s' e => hd H' s' ?_)
  · obtain ⟨z, hz, rfl⟩ := List.mem_map.mp hx
    exact hs z H' R hz s1 k
  · rw [e, List.map_map, List.map_map]
    rfl
theorem lc_lstI {K : PySem.W.Frag} {a : Addr} {xs : List Int} {g : TG} {te : TE} {vs : List Nat} {σ : L2.St} {H1 : Hp} {D : Addr} {Qd : Hp → Prop} (f : Int → Int) (hX : SqL K H1 a (xs.map V.int)) (hD : H1 D = none) (hn : xs.length ≤ 1000)
    (hs : ∀ x H' (R : VK), x ∈ xs → Same H1 H' → (∀ H4, Same H' H4 → R (.int (f x)) H4) → g (.int x) (wipe σ vs) H' fun σ2 H2 => wipe σ2 vs = wipe σ vs ∧ te σ2 H2 R)
    (hd : ∀ H', Same H1 H' → H' D = some (.lst ((xs.map f).map V.int)) → Qd H') : LoopC (Itl K a) g tYes te vs σ H1 D Qd := by
  refine lc_yat (walk_list (xs := xs.map V.int)) rfl (fun v => match v with | .int x => .int (f x) | v => v) hD (by rw [List.length_map]; exact hn) (fun H' s => s.seq hX) (fun x H' R hx s1 k => ?_) (fun H' s' e => hd H' s' ?_)
  · obtain ⟨z, hz, rfl⟩ := List.mem_map.mp hx
    exact hs z H' R hz s1 k
  · rw [e, List.map_map, List.map_map]
    rfl
/-- with a test -/
theorem lc_yatF {J : It} {n : Nat} {G : Hp → Prop} {xs : List V} (w : Walk J n G (YAt xs)) (hl : xs.length = n) {g : TG} {tt : TT} {te : TE} {vs : List Nat} {σ : L2.St} {H1 : Hp} {D : Addr} {Qd : Hp → Prop} (b : V → Bool) (f : V → V) (hD : H1 D = none) (hn : n ≤ 1000)
    (hG : ∀ H', Same H1 H' → G H')
    (hs : ∀ x H' (N : Hp → Prop) (R : VK), x ∈ xs → Same H1 H' → (b x = false → ∀ H4, Same H' H4 → N H4) → (b x = true → ∀ H4, Same H' H4 → R (f x) H4) → g x (wipe σ vs) H' fun σ2 H2 => wipe σ2 vs = wipe σ vs ∧ tt σ2 H2 fun b H3 => if b = true then te σ2 H3 R else N H3)
    (hd : ∀ H', Same H1 H' → H' D = some (.lst ((xs.filter b).map f)) → Qd H') : LoopC J g tt te vs σ H1 D Qd := by
  refine loopc_it w (fun i H => Same H1 H ∧ H D = some (.lst (((xs.take i).filter b).map f))) ⟨same_upd hD, upd_same⟩ (fun i H _ p => hG H p.1) (fun i x H H' hi p y => ?_) (fun H p => hd H p.1 ?_)
  · obtain ⟨rfl, e⟩ := yat_at y
    have hx := List.mem_of_getElem? e
    have hi' : i < xs.length := by omega
    have et : xs.take (i + 1) = xs.take i ++ [x] := by
      rw [List.take_succ_eq_append_getElem hi', (List.getElem?_eq_some_iff.mp e).2]
    refine hs x _ _ _ hx p.1 (fun hb H4 s4 => ⟨p.1.trans s4, ?_⟩) (fun hb H4 s4 => ⟨_, s4 _ _ p.2, ?_, same_upd2 (p.1.trans s4) hD, ?_⟩)
    · rw [et, List.filter_append, List.filter_cons, hb, if_neg (by decide), List.filter_nil, List.append_nil]
      exact s4 _ _ p.2
    · rw [List.length_map]
      exact small1000 (Nat.le_trans (List.length_filter_le _ _) (by rw [List.length_take]; omega))
    · rw [upd_same, et, List.filter_append, List.filter_cons, hb, if_pos rfl, List.filter_nil, List.map_append]
      rfl
  · rw [p.2, ← hl, List.take_length]
theorem lc_tupIF {K : PySem.W.Frag} {a : Addr} {xs : List Int} {g : TG} {tt : TT} {te : TE} {vs : List Nat} {σ : L2.St} {H1 : Hp} {D : Addr} {Qd : Hp → Prop} (b : Int → Bool) (hX : SqT K H1 a (xs.map V.int)) (hD : H1 D = none) (hn : xs.length ≤ 1000)
    (hs : ∀ x H' (N : Hp → Prop) (R : VK), x ∈ xs → Same H1 H' → (b x = false → ∀ H4, Same H' H4 → N H4) → (b x = true → ∀ H4, Same H' H4 → R (.int x) H4) → g (.int x) (wipe σ vs) H' fun σ2 H2 => wipe σ2 vs = wipe σ vs ∧ tt σ2 H2 fun b H3 => if b = true then te σ2 H3 R else N H3)
    (hd : ∀ H', Same H1 H' → H' D = some (.lst ((xs.filter b).map V.int)) → Qd H') : LoopC (Itt K a) g tt te vs σ H1 D Qd := by
  refine lc_yatF (walk_tup (xs := xs.map V.int)) rfl (fun v => match v with | .int x => b x | _ => false) (fun v => v) hD (by rw [List.length_map]; exact hn) (fun H' s => sameT s hX) (fun x H' N R hx s1 k1 k2 => ?_) (fun H' s' e => hd H' s' ?_)
  · obtain ⟨z, hz, rfl⟩ := List.mem_map.mp hx
    exact hs z H' N R hz s1 k1 k2
  · rw [e, List.map_id'', List.filter_map]
    · rfl
    · intro _; rfl
/-- walked as a list or as a tuple -/
def iOr (w1 w2 : TI) : TI := fun σ H R => w1 σ H R ∨ w2 σ H R
theorem pi_or {X : Cx} {tg it : Expr} {w1 w2 : TI} (h1 : PI X tg it w1) (h2 : PI X tg it w2) : PI X tg it (iOr w1 w2) := ⟨fun pins s σ H R I h => h.elim (h1.run pins s σ H R I) (h2.run pins s σ H R I)⟩
end Bs
namespace Bs
open PySem L2 TL PySem.Spec PyProof.Rows PySem.SeqAt

/-! ### one pair is less than another one whose first items are equal -/
/-- two values compared by < -/
def LtAt (A : Around) (s : Shared) (y x : Value) (r : Bool) : Prop :=
  ∀ (prog : Program) (w : World) (Er Qr : Value → Shared → Prop), Qr (.bool r) s → wpAny (model prog w) A (richCompare .Lt y x) Qr Er s
theorem pair_lt (l b : Addr) (p q u v : Value) (n n2 : Nat) (dd dd2 : Option Addr) (sl sl2 : Array (Option Value)) (c r : Bool) :
    Meets (Builtin.«tuple.__lt__» ⟨[.ref l, .ref b], []⟩)
      (fun A R s => (s.heap.get? l = some { cls := .type "tuple", dict := dd, data := .seq #[p, q] n, slots := sl } ∧ s.heap.get? b = some { cls := .type "tuple", dict := dd2, data := .seq #[u, v] n2, slots := sl2 }) ∧
        EqAt A.in1 s p u true ∧ EqAt A.in1 s q v c ∧ (c = false → LtAt A.in1 s q v r) ∧ R (.ok (.ret (.bool (if c then false else r)))) s) :=
  .of_wp fun prog w A R s h => by
    obtain ⟨hp, g, d, tk, os⟩ := s
    obtain ⟨⟨hl, hb⟩, e1, e2, e3, hR⟩ := h
    have f2 := AutoSeq1.sub_tuple_tuple
    wp_walk using AutoSeq1.wpAny_loadPart' hl, AutoSeq1.wpAny_loadPart' hb, wpAny_forIn_list _ (fun rest k s' => (k.1 = none ∧ s' = ⟨hp, g, d, tk, os⟩) ∧ (rest = [(p, u), (q, v)] ∨ rest = [(q, v)] ∨ (rest = [] ∧ c = true))) _
    case turn =>
      rintro ⟨y, x⟩ rest k s' ⟨⟨hk, rfl⟩, hz⟩
      rcases hz with hz | hz | ⟨hz, _⟩
      · injection hz with h1 h2
        injection h1 with h3 h4
        subst h3 h4 h2
        refine wpAny_bind (e1 prog w _ _ ?_)
        wp_walk
        exact ⟨⟨rfl, rfl⟩, .inr (.inl rfl)⟩
      · injection hz with h1 h2
        injection h1 with h3 h4
        subst h3 h4 h2
        refine wpAny_bind (e2 prog w _ _ ?_)
        cases c with
        | true =>
          wp_walk
          exact ⟨⟨rfl, rfl⟩, .inr (.inr ⟨rfl, rfl⟩)⟩
        | false =>
          have hr := e3 rfl prog w
          wp_walk using hr
          exact ⟨_, rfl, by simpa using hR⟩
      · cases hz
    case fin =>
      rintro ⟨k1, k2⟩ s' ⟨⟨hk, rfl⟩, hz⟩
      simp only at hk
      subst hk
      rcases hz with hz | hz | ⟨_, rfl⟩
      · cases hz
      · cases hz
      · wp_walk
        exact ⟨_, rfl, by simpa [Builtin.Tuple.tupleCompareSizes] using hR⟩
    case h =>
      exact ⟨⟨rfl, rfl⟩, .inl rfl⟩

/-! ### keys of any depth, in the abstract heap -/
mutual
inductive Nk (K : PySem.W.Frag) (H : Hp) : V → NestedKey → Prop
  | non : Nk K H .non .none
  | int (i : Int) : Nk K H (.int i) (.num i)
  | str (z : Str) : Nk K H (.str z) (.text z)
  | tup {a : Addr} {xs : List V} {ks : List NestedKey} : SqT K H a xs → NkAll K H xs ks → Nk K H (.ref a) (.tup ks)
inductive NkAll (K : PySem.W.Frag) (H : Hp) : List V → List NestedKey → Prop
  | nil : NkAll K H [] []
  | cons {x : V} {xs : List V} {k : NestedKey} {ks : List NestedKey} : Nk K H x k → NkAll K H xs ks → NkAll K H (x :: xs) (k :: ks)
end
section
variable {X : Cx} {pins : List (Addr × Obj)} {σ : L2.St} {H : Hp} {s : Shared}
mutual
theorem Nk.is (I : Inv X pins σ H s) : ∀ (k : NestedKey) (x : V) (u : Value), Nk X.K H x k → RelV x u → NestedIs s.heap k u
  | .none, _, _, h, r => by
    cases h
    cases r
    exact .none
  | .num i, _, _, h, r => by
    cases h
    obtain ⟨t, rfl⟩ := r
    exact .int i t
  | .text z, _, _, h, r => by
    cases h
    obtain ⟨t, rfl⟩ := r
    exact .text z t
  | .tup ks, _, _, h, r => by
    cases h with
    | tup hT hA =>
      cases r
      obtain ⟨its, rv, ⟨o, ho, hc, n, hd⟩, _⟩ := I.tuple hT
      exact .tup ho hc hd (Nk.isAll I ks _ _ hA rv)
theorem Nk.isAll (I : Inv X pins σ H s) : ∀ (ks : List NestedKey) (xs : List V) (us : List Value), NkAll X.K H xs ks → Vals xs us → NestedAll s.heap ks us
  | [], _, _, h, r => by
    cases h
    cases r
    exact .nil
  | k :: ks, _, _, h, r => by
    cases h with
    | cons h1 h2 =>
      cases r with
      | cons r1 r2 => exact .cons (Nk.is I k _ _ h1 r1) (Nk.isAll I ks _ _ h2 r2)
end
end
mutual
theorem Nk.same {K : PySem.W.Frag} {H H' : Hp} (e : Same H H') : ∀ (k : NestedKey) (x : V), Nk K H x k → Nk K H' x k
  | .none, _, h => by cases h; exact .non
  | .num i, _, h => by cases h; exact .int i
  | .text z, _, h => by cases h; exact .str z
  | .tup ks, _, h => by
    cases h with
    | tup hT hA => exact .tup (sameT e hT) (NkAll.same e ks _ hA)
theorem NkAll.same {K : PySem.W.Frag} {H H' : Hp} (e : Same H H') : ∀ (ks : List NestedKey) (xs : List V), NkAll K H xs ks → NkAll K H' xs ks
  | [], _, h => by cases h; exact .nil
  | k :: ks, _, h => by
    cases h with
    | cons h1 h2 => exact .cons (Nk.same e k _ h1) (NkAll.same e ks _ h2)
end
/-! ### a dict with such keys -/
abbrev NE := NestedKey × Addr × V
def NRel (p : NE) (q : NestedKey × Addr × Value) : Prop := p.1 = q.1 ∧ p.2.1 = q.2.1 ∧ RelV p.2.2 q.2.2
def NdAt (P : Program) (w : World) (a : Addr) (xs : List NE) (h : Heap) : Prop := (a == sysModules) = false ∧ xs.length ≤ sizeLine ∧ ∃ vs, Paired NRel xs vs ∧
  ∃ o es ep, h.get? a = some o ∧ (o.ExactDict ∧ o.data = .dict es ep) ∧ es.toList = vs.map (entryOfKey (nestedKind P w)) ∧ (vs.map (·.1)).Nodup
def NDct (P : Program) (w : World) (a : Addr) (xs : List NE) : HO := .ext (NdAt P w a xs)
def lookN (xs : List NE) (k : NestedKey) : Option V := (xs.find? fun x => decide (x.1 = k)).map (·.2.2)
theorem nrel_look (k : NestedKey) : ∀ {xs : List NE} {vs : List (NestedKey × Addr × Value)}, Paired NRel xs vs → RelO (lookN xs k) ((atKey vs k).map (·.2))
  | _, _, .nil => trivial
  | _, _, .cons (a := x) (b := y) (l₁ := xs) (l₂ := ys) r rs => by
    have ih := nrel_look k rs
    obtain ⟨r1, r2, r3⟩ := r
    unfold lookN atKey at ih ⊢
    rw [List.find?_cons, List.find?_cons, r1]
    by_cases e : y.1 = k
    · rw [decide_eq_true e]
      exact r3
    · rw [decide_eq_false e]
      exact ih
theorem nd_at {P : Program} {w : World} {h h' : Heap} {a : Addr} {xs : List NE} (x : NdAt P w a xs h) (k : ∀ o, h.get? a = some o → h'.get? a = some o) : NdAt P w a xs h' := by
  obtain ⟨y, z, vs, r, o, es, ep, ho, q⟩ := x
  exact ⟨y, z, vs, r, o, es, ep, k o ho, q⟩
theorem nd_obj {P : Program} {w : World} {H : Hp} {h : Heap} {a : Addr} {xs : List NE} (x : NdAt P w a xs h) : ObjOk P w H h a (NDct P w a xs) :=
  ⟨x, (let ⟨_, _, _, _, o, _, _, ho, _⟩ := x; ⟨o, ho⟩), fun _ _ p k => nd_at p k⟩
def KeysIn (K : PySem.W.Frag) (H : Hp) (xs : List NE) : Prop := ∀ x ∈ xs, Nk K H (.ref x.2.1) x.1 ∧ x.1.depth ≤ 8
theorem KeysIn.same {K : PySem.W.Frag} {H H' : Hp} {xs : List NE} (h : KeysIn K H xs) (e : Same H H') : KeysIn K H' xs := fun x hx => ⟨Nk.same e _ _ (h x hx).1, (h x hx).2⟩
section
variable {X : Cx} {pos : Pos}
/-- {}, to be such a dict -/
def tDNewN (P : Program) (w : World) : TE := fun _ H Q => ∀ p, H p = none → Q (.ref p) (upd H p (NDct P w p []))
theorem pe_dnewN : PE X (.Dict [] [] pos) (tDNewN X.prog X.w) := ⟨fun pins s σ H Q I h => by
  have nd : NdAt X.prog X.w s.heap.objs.size [] (s.heap.push { cls := .type "dict", data := .dict #[] }) :=
    ⟨beq_eq_false_iff_ne.mpr (Ne.symm (Nat.ne_of_lt I.big)), Nat.zero_le _, [], .nil, _, #[], 0, Heap.get?_push_size _ rfl, ⟨⟨rfl, rfl, rfl⟩, rfl⟩, rfl, List.nodup_nil⟩
  exact wpAny_Dict_empty ⟨.ref s.heap.objs.size, _, I.laid (t' := s.toks) (fun _ _ q => Heap.get?_push_of_some _ q) (Nat.le_refl _) (nd_obj nd), rfl, h _ (I.hok.fresh (Nat.le_refl _))⟩⟩
theorem nd_paired {xs : List NE} {vs : List (NestedKey × Addr × Value)} (r : Paired NRel xs vs) {x : NE} {y : NestedKey × Addr × Value} (r1 : NRel x y) : Paired NRel (xs ++ [x]) (vs ++ [y]) := by
  induction r with
  | nil => exact .cons r1 .nil
  | cons h _ ih => exact .cons h ih
theorem nd_mem : ∀ {xs : List NE} {vs : List (NestedKey × Addr × Value)}, Paired NRel xs vs → ∀ y ∈ vs, ∃ x ∈ xs, NRel x y
  | _, _, .nil, _, h => by cases h
  | _, _, .cons r rs, y, h => by
    rcases List.mem_cons.mp h with rfl | h
    · exact ⟨_, List.mem_cons_self, r⟩
    · obtain ⟨x, hx, e⟩ := nd_mem rs y h
      exact ⟨x, List.mem_cons_of_mem _ hx, e⟩
theorem nd_len : ∀ {xs : List NE} {vs : List (NestedKey × Addr × Value)}, Paired NRel xs vs → xs.length = vs.length
  | _, _, .nil => rfl
  | _, _, .cons _ rs => congrArg (· + 1) (nd_len rs)
theorem nd_of {pins : List (Addr × Obj)} {σ : L2.St} {H : Hp} {s : Shared} {a : Addr} {xs : List NE} (I : Inv X pins σ H s) (e : H a = some (NDct X.prog X.w a xs)) (ks : KeysIn X.K H xs) :
    (a == sysModules) = false ∧ xs.length ≤ sizeLine ∧ ∃ vs, Paired NRel xs vs ∧ s.heap.DictOfH (nestedKind X.prog X.w) a vs := by
  obtain ⟨⟨y, z, vs, r, o, es, ep, ho, ⟨hc, hd⟩, he, hn⟩, _⟩ := I.hok a _ e
  refine ⟨y, z, vs, r, o, es, ep, ho, hc, hd, he, fun v hv => ?_, hn⟩
  obtain ⟨x, hx, e1, e2, _⟩ := nd_mem r v hv
  obtain ⟨k1, k2⟩ := ks x hx
  rw [← e1, ← e2]
  exact ⟨Nk.is I _ _ _ k1 rfl, k2⟩
/-- d.setdefault(y, z) -/
def rNSet (K : PySem.W.Frag) (P : Program) (w : World) (a : Addr) (y z : V) (H : Hp) (Q : VK) : Prop := ∃ (xs : List NE) (b : Addr) (k : NestedKey), H a = some (NDct P w a xs) ∧ KeysIn K H xs ∧ y = .ref b ∧ Nk K H y k ∧ k.depth ≤ 8 ∧ xs.length < sizeLine ∧
  (∀ v, lookN xs k = some v → Q v H) ∧ (lookN xs k = none → Q z (upd H a (NDct P w a (xs ++ [(k, b, z)]))))
def tNSet (K : PySem.W.Frag) (P : Program) (w : World) (td ty tx : TE) : TE := fun σ H Q => td σ H fun d H1 => ∃ a, d = .ref a ∧ (∃ xs, H1 a = some (NDct P w a xs)) ∧ ty σ H1 fun y H2 => tx σ H2 fun z H3 => rNSet K P w a y z H3 Q
theorem pe_nset {o e f : Expr} {td ty tx : TE} {apos cpos : Pos} (ho : PE X o td) (he : PE X e ty) (hf : PE X f tx) (m : M2 X o "setdefault" apos e f cpos) (hu : X.A.units + 9 < cLine) :
    PE X (.Call (.Attribute o "setdefault" apos) [e, f] [] cpos) (tNSet X.K X.prog X.w td ty tx) := by
  constructor
  intro pins s σ H Q I h
  refine wpAny_Call_method m.base m.few m.line PySem.F.plainAttrs_dict PySem.F.slot_dict_setdefault PySem.F.type_dict_setdefault (thn (ho.run pins s σ H _ I h) ?_)
  rintro du s1 ⟨d, H1, I1, rd, a, rfl, ⟨xs0, e0⟩, q1⟩
  obtain rfl : du = Value.ref a := rd
  obtain ⟨⟨y0, _, _, _, ob, es, ep, hob, ⟨hcd, hda⟩, _⟩, _⟩ := I1.hok a _ e0
  have noD : ob.dict = none := hcd.2.1
  refine ⟨⟨ob, hob, hcd.1⟩, fun b hb => by cases hb; exact ⟨ob, hob, noD⟩, ?_⟩
  rw [m.trees]
  refine Calls.callWith_builtin rfl (Calls.evalArgs_plain (Calls.spliced_cons (thn (he.run pins s1 σ H1 _ I1 q1) ?_)))
  rintro yu s2 ⟨y, H2, I2, ry, q2⟩
  refine Calls.spliced_cons (thn (hf.run pins s2 σ H2 _ I2 q2) ?_)
  rintro zu s3 ⟨z, H3, I3, rz, xs, b, k, ea, ks, rfl, hk, hdp, hl, g1, g2⟩
  refine Calls.spliced_nil ?_
  obtain rfl : yu = Value.ref b := ry
  obtain ⟨ys, zs, vs, rel, dd⟩ := nd_of I3 ea ks
  have ln := nd_len rel
  have lk := nrel_look k rel
  refine call_setdefault_heap (knd := nestedKind X.prog X.w) (k := k) (xs := vs) (show X.A.units + 1 + 8 < cLine by omega) ⟨Nk.is I3 k _ (Value.ref b) hk rfl, hdp⟩ ys dd (fun p hp => ?_) (fun hn h' dd' sb => ?_) (by omega)
  · rw [hp] at lk
    cases q0 : lookN xs k with
    | none => rw [q0] at lk; exact lk.elim
    | some v0 =>
      rw [q0] at lk
      exact ⟨v0, H3, I3.tok _, lk, g1 v0 q0⟩
  · rw [hn] at lk
    cases q0 : lookN xs k with
    | some v0 => rw [q0] at lk; exact lk.elim
    | none =>
      rw [storedH_new hn] at dd'
      obtain ⟨o', es', ep', ho', hc', hd', he', _, hn'⟩ := dd'
      have nd : NdAt X.prog X.w a (xs ++ [(k, b, z)]) h' := ⟨ys, by rw [List.length_append, List.length_singleton]; omega, _, nd_paired rel ⟨rfl, rfl, rz⟩, o', es', ep', ho', ⟨hc', hd'⟩, he', hn'⟩
      exact ⟨z, _, I3.write (x := a) (e := a) (by rw [ea]; trivial) (.inl rfl) (fun c q hc hq => (sb.2 c hc).trans hq) ⟨o', ho'⟩ (nd_obj nd), rz, g2 q0⟩
end
end Bs
namespace Bs
open PySem L2 TL PySem.Spec PyProof.Rows PySem.SeqAt
section
variable {A : Around} {s : Shared}
theorem ltAt_pair {l b : Addr} {p q u v : Value} {c r : Bool} (hl : IsTup s.heap l #[p, q]) (hb : IsTup s.heap b #[u, v]) (e1 : EqAt A.in1 s p u true) (e2 : EqAt A.in1 s q v c) (e3 : c = false → LtAt A.in1 s q v r) (hu : A.units < cLine) :
    LtAt A s (.ref l) (.ref b) (if c then false else r) := by
  intro prog w Er Qr hq
  obtain ⟨⟨cls, dd, data, sl⟩, ho, hc, n, hd⟩ := hl
  obtain ⟨⟨cls2, dd2, data2, sl2⟩, ho2, hc2, n2, hd2⟩ := hb
  dsimp only at hc hd hc2 hd2
  cases hc; cases hd; cases hc2; cases hd2
  exact richCompare_meets_room (op := .Lt) (Q := Qr) ⟨_, ho, rfl⟩ ⟨_, ho2, rfl⟩ PySem.F.slot_tuple_lt PySem.F.entry_tuple_lt (PySem.F.args_tuple_lt_2 _ _) (pair_lt l b p q u v n n2 dd dd2 sl sl2 c r)
    ⟨⟨ho, ho2⟩, e1, e2, e3, (fun z => nomatch z), hq⟩ hu
theorem ltAt_ints {l b : Addr} {items items2 : Array Value} {ns ms : List Int} (hl : IsTup s.heap l items) (hb : IsTup s.heap b items2) (hi : IntsAre items.toList ns) (hj : IntsAre items2.toList ms) (hu : A.units < cLine) :
    LtAt A s (.ref l) (.ref b) (HT.lexLt ns ms) := fun prog w Er Qr hq => (HT.lt_tupInts hl hb hi hj hu hq : wpAny (model prog w) A (compareOp .Lt (.ref l) (.ref b)) Qr Er s)
end
theorem min_pair {prog : Program} {w : World} {A : Around} {Er : Value → Shared → Prop} {s : Shared} {a b : Value} {Q : Value → Shared → Prop} (hh : A.handled = none) (ev : Nat → List Int)
    (hlt : ∀ (s' : Shared), (∀ c o, s.heap.get? c = some o → s'.heap.get? c = some o) → ∀ i j x y, #[a, b][i]? = some x → #[a, b][j]? = some y → LtAt A.in1 s' x y (HT.lexLt (ev i) (ev j)))
    (h : ∀ h' tk, (∀ c o, s.heap.get? c = some o → h'.get? c = some o) → Q (if HT.lexLt (ev 1) (ev 0) then b else a) { s with heap := h', toks := tk }) :
    wpAny (model prog w) A (call (.builtin "min") [a, b]) Q Er s := by
  refine call_function_tree F.kind_min F.plain_min F.entry_min (F.args_min2 _ _) ?_
  have hb0 : Builtin.Builtins.bindParams "min" ["key", "default"] 0 ⟨[], []⟩ = pure [none, none] := rfl
  show wpAny _ A.in1 (Builtin.Builtins.bindParams _ _ _ _ >>= _) _ _ s
  refine wpAny_bind (wpAny_of_eq hb0 (wpAny_bind (wpAny_newObj_type ?_)))
  have sz0 : (s.heap.push { cls := .type "tuple", data := .seq #[a, b] }).objs.size = s.heap.objs.size + 1 := Heap.size_push ..
  have hT : (s.heap.push { cls := .type "tuple", data := .seq #[a, b] }).IsTuple s.heap.objs.size #[a, b] := ⟨_, Heap.get?_push_size _ rfl, rfl, 0, rfl⟩
  refine wpAny_bind (wpAny_pyIter_tuple hT (wpAny_bind (wpAny_newObj_type ?_)))
  have nm : (toString "min" ++ toString ".loop" : String) = "min.loop" := by decide
  rw [nm]
  have W := (Walks.tuple (prog := prog) (w := w) (A := A.in1) hh (s.heap.objs.size + 1) s.heap.objs.size (Nat.ne_of_lt (Nat.lt_succ_self _)) #[a, b]).toS
  refine wpAny_pure ⟨plainId_quiet F.plain_min_loop _, ?_⟩
  rw [sz0]
  have sz1 : ∀ o : Obj, ((s.heap.push { cls := .type "tuple", data := .seq #[a, b] }).push o).objs.size = s.heap.objs.size + 2 := fun o => by rw [Heap.size_push, sz0]
  have kp : ∀ (o1 o2 o3 : Obj) c o, s.heap.get? c = some o → (((s.heap.push o1).push o2).push o3).get? c = some o := fun o1 o2 o3 c o e => Heap.get?_push_of_some _ (Heap.get?_push_of_some _ (Heap.get?_push_of_some _ e))
  have nin : ∀ n c o, s.heap.objs.size ≤ n → s.heap.get? c = some o → c ≠ n := fun n c o hn e => Nat.ne_of_lt (Nat.lt_of_lt_of_le (Heap.lt_size e) hn)
  refine codeAny_min_loop_firstH W s.heap (fun c o e hm => nin _ c o (Nat.le_succ _) e (List.mem_singleton.mp hm)) (fun i j => HT.lexLt (ev i) (ev j)) (fun i j x y s' Q' E' hk hx hy hq => hlt s' hk i j x y hx hy prog w E' Q' hq) _ ?_ ?_ _ (show 0 < 2 by decide) (kp _ _ _) ?_ (Heap.get?_push_size _ rfl) ?_
  · intro hm
    rw [sz1] at hm
    rcases List.mem_cons.mp hm with e | hm
    · exact Nat.succ_ne_self _ (Nat.succ.inj e)
    · exact Nat.ne_of_gt (Nat.lt_succ_of_lt (Nat.lt_succ_self _)) (List.mem_singleton.mp hm)
  · show s.heap.get? _ = none
    cases e : s.heap.get? (((s.heap.push { cls := .type "tuple", data := .seq #[a, b] }).push { cls := .type "tuple_iterator", data := .fields #[.ref s.heap.objs.size, .int 0 0] }).objs.size) with
    | none => rfl
    | some o =>
      have := Heap.lt_size e
      rw [sz1] at this
      exact absurd (Nat.lt_of_succ_lt this) (Nat.not_lt_of_gt (Nat.lt_succ_self _))
  · refine ⟨⟨{ cls := .type "tuple_iterator", data := .fields #[.ref s.heap.objs.size, .int 0 0] }, Heap.get?_push_of_some _ ?_, rfl, rfl⟩, (hT.push _).push _⟩
    rw [← sz0]
    exact Heap.get?_push_size _ rfl
  · intro v s' hP hm
    have hv : #[a, b][if HT.lexLt (ev 1) (ev 0) then 1 else 0]? = some v := hP
    have e2 : v = if HT.lexLt (ev 1) (ev 0) then b else a := by
      by_cases hx : HT.lexLt (ev 1) (ev 0) = true
      · rw [if_pos hx] at hv ⊢
        exact (Option.some.inj hv).symm
      · rw [if_neg hx] at hv ⊢
        exact (Option.some.inj hv).symm
    have q := h s'.heap s'.toks fun c o e => hm.heap c o (fun hc => by
      rcases List.mem_cons.mp hc with z | hc
      · rw [sz1] at z
        exact nin _ c o (Nat.le_add_right _ 2) e z
      · exact nin _ c o (Nat.le_succ _) e (List.mem_singleton.mp hc)) (kp _ _ _ c o e)
    rw [e2]
    have g1 := hm.gens
    have g2 := hm.drawn
    have g3 := hm.os
    obtain ⟨hp', ge', dr', tk', os'⟩ := s'
    dsimp only at g1 g2 g3 q ⊢
    subst g1 g2 g3
    exact q

theorem nested_ints {h : Heap} : ∀ (e : List Int) (its : List Value), Vals (e.map V.int) its → NestedAll h (e.map NestedKey.num) its
  | [], _, r => by
    cases r
    exact .nil
  | x :: e, _, r => by
    cases r with
    | cons r1 r2 =>
      obtain ⟨t, rfl⟩ := r1
      exact .cons (.int x t) (nested_ints e _ r2)
theorem depth_nums : ∀ e : List Int, NestedKey.depthAll (e.map NestedKey.num) = 0
  | [] => rfl
  | x :: e => by
    rw [List.map_cons, NestedKey.depthAll, depth_nums e]
    rfl
theorem nums_inj : ∀ {e f : List Int}, e.map NestedKey.num = f.map NestedKey.num → e = f
  | [], [], _ => rfl
  | [], _ :: _, h => by cases h
  | _ :: _, [], h => by cases h
  | x :: e, y :: f, h => by
    injection h with h1 h2
    injection h1 with h3
    rw [h3, nums_inj h2]
theorem lexLt_self : ∀ e : List Int, HT.lexLt e e = false
  | [] => rfl
  | x :: e => by rw [HT.lexLt_cons, if_pos rfl, lexLt_self e]
/-- min of two pairs of a text and a tuple of ints, the texts alike -/
def rMinP (K : PySem.W.Frag) : List V → Hp → VK → Prop := fun xs H Q => ∃ (a b p q : Addr) (z : Str) (e1 e2 : List Int), xs = [.ref a, .ref b] ∧ SqT K H a [.str z, .ref p] ∧ SqT K H b [.str z, .ref q] ∧ SqT K H p (e1.map V.int) ∧ SqT K H q (e2.map V.int) ∧
  Q (if HT.lexLt e2 e1 then .ref b else .ref a) H
theorem tup_kept {s s' : Shared} {a : Addr} {its : Array Value} (k : ∀ c o, s.heap.get? c = some o → s'.heap.get? c = some o) (h : IsTup s.heap a its) : IsTup s'.heap a its := let ⟨o, ho, r⟩ := h; ⟨o, k a o ho, r⟩
theorem call_minP {X : Cx} (hc : X.calm = true) (hu : X.A.units + 64 < cLine) : CallR X (.builtin "min") (rMinP X.K) := by
  intro pins s σ H xs us Q I r h
  obtain ⟨a, b, p, q, z, e1, e2, rfl, ha, hb, hp, hq, g⟩ := h
  obtain ⟨u1, u2, rfl, r1, r2⟩ := vals2 r
  obtain rfl : u1 = Value.ref a := r1
  obtain rfl : u2 = Value.ref b := r2
  have two : ∀ (c d : Addr), SqT X.K H c [.str z, .ref d] → ∃ t, IsTup s.heap c #[.str z t, .ref d] := fun c d hcd => by
    obtain ⟨its, rr, tt, _⟩ := I.tuple hcd
    obtain ⟨v1, v2, rfl, ⟨t, rfl⟩, w2⟩ := vals2 rr
    obtain rfl : v2 = Value.ref d := w2
    exact ⟨t, tt⟩
  obtain ⟨t1, pa⟩ := two a p ha
  obtain ⟨t2, pb⟩ := two b q hb
  obtain ⟨i1, v1, pp, _⟩ := I.tuple hp
  obtain ⟨i2, v2, pq, _⟩ := I.tuple hq
  -- any two of them compared
  have cmp : ∀ (s' : Shared), (∀ c o, s.heap.get? c = some o → s'.heap.get? c = some o) → ∀ (l m c d : Addr) (t t' : Tok) (j1 j2 : List Value) (f1 f2 : List Int), IsTup s.heap l #[.str z t, .ref c] → IsTup s.heap m #[.str z t', .ref d] → IsTup s.heap c j1.toArray → IsTup s.heap d j2.toArray →
      Vals (f1.map V.int) j1 → Vals (f2.map V.int) j2 → LtAt X.A.in1 s' (.ref l) (.ref m) (HT.lexLt f1 f2) := fun s' k l m c d t t' j1 j2 f1 f2 hl hm hc' hd' w1 w2 => by
    have kc := tup_kept k hc'
    have kd := tup_kept k hd'
    have n1 : NestedIs s'.heap (.tup (f1.map NestedKey.num)) (.ref c) := let ⟨o, ho, h2, n, h3⟩ := kc; .tup ho h2 h3 (nested_ints f1 _ w1)
    have n2 : NestedIs s'.heap (.tup (f2.map NestedKey.num)) (.ref d) := let ⟨o, ho, h2, n, h3⟩ := kd; .tup ho h2 h3 (nested_ints f2 _ w2)
    have dp : ∀ f : List Int, (NestedKey.tup (f.map NestedKey.num)).depth = 1 := fun f => by
      rw [NestedKey.depth, depth_nums]
    have eq2 := eqAt_key _ _ X.A.in1.in1 s' _ _ n1 n2 (by
      rw [dp, dp]
      show X.A.units + 1 + 1 + min 1 1 < cLine
      omega)
    have eq1 : EqAt X.A.in1.in1 s' (.str z t) (.str z t') true := (EqAt.str_str z t z t').cast (by simp)
    have lt2 : LtAt X.A.in1.in1 s' (.ref c) (.ref d) (HT.lexLt f1 f2) := ltAt_ints kc kd (intsAre_of w1) (intsAre_of w2) (by
      show X.A.units + 1 + 1 < cLine
      omega)
    have := ltAt_pair (tup_kept k hl) (tup_kept k hm) eq1 eq2 (fun _ => lt2) (by show X.A.units + 1 < cLine; omega)
    cases hbq : NestedKey.beq (.tup (f1.map NestedKey.num)) (.tup (f2.map NestedKey.num)) with
    | true =>
      rw [hbq] at this
      have e := NestedKey.eq_of_beq _ _ hbq
      injection e with e
      rw [nums_inj e, lexLt_self]
      exact this
    | false =>
      rw [hbq] at this
      exact this
  refine min_pair (I.ok.hd hc) (fun i => if i = 0 then e1 else e2) (fun s' k i j x y hx hy => ?_) fun h' tk k => ⟨_, H, I.kept k, ?_, g⟩
  · have sp : ∀ (i : Nat) (x : Value), (#[Value.ref a, Value.ref b] : Array Value)[i]? = some x → (i = 0 ∧ x = .ref a) ∨ (i = 1 ∧ x = .ref b) := fun i x hx => by
      match i with
      | 0 => exact .inl ⟨rfl, (Option.some.inj hx).symm⟩
      | 1 => exact .inr ⟨rfl, (Option.some.inj hx).symm⟩
      | n + 2 => simp at hx
    rcases sp i x hx with ⟨rfl, rfl⟩ | ⟨rfl, rfl⟩ <;> rcases sp j y hy with ⟨rfl, rfl⟩ | ⟨rfl, rfl⟩
    · exact cmp s' k _ _ _ _ _ _ _ _ _ _ pa pa pp pp v1 v1
    · exact cmp s' k _ _ _ _ _ _ _ _ _ _ pa pb pp pq v1 v2
    · exact cmp s' k _ _ _ _ _ _ _ _ _ _ pb pa pq pp v2 v1
    · exact cmp s' k _ _ _ _ _ _ _ _ _ _ pb pb pq pq v2 v2
  · show RelV (if HT.lexLt e2 e1 = true then V.ref b else V.ref a) (if HT.lexLt e2 e1 = true then Value.ref b else Value.ref a)
    split <;> rfl
theorem units9 {k : Nat} {A : Around} (r : Room k A) : A.units + 9 < cLine := by
  have := r.units
  omega
theorem cxP {CX : CXT} {P : Program} {w : World} {K : PySem.W.Frag} {mg : Str → Option Value} {base : Heap} {N : List Str} {qual : Str} {scope : Scope} {f : Addr} {cd : Value} {A : Around} {outer : List Env} {s : Shared} {H : Hp} {E : XK} : (cxOf CX P w K mg base N qual scope f cd A outer s H E).prog = P := rfl
theorem cxW {CX : CXT} {P : Program} {w : World} {K : PySem.W.Frag} {mg : Str → Option Value} {base : Heap} {N : List Str} {qual : Str} {scope : Scope} {f : Addr} {cd : Value} {A : Around} {outer : List Env} {s : Shared} {H : Hp} {E : XK} : (cxOf CX P w K mg base N qual scope f cd A outer s H E).w = w := rfl
/-- blocks within statements -/
def forB : Stmt → List Stmt
  | .For _ _ b _ _ => b
  | _ => []
def ifB : Stmt → List Stmt
  | .If _ b _ _ => b
  | _ => []
def elB : Stmt → List Stmt
  | .If _ _ b _ => b
  | _ => []
def stAt (l : List Stmt) (i : Nat) : Stmt := l.getD i (.Pass ⟨0, 0, 0, 0⟩)
/-! ### tuples with equal items: neither is less -/
theorem alike_lt (l b : Addr) (items items2 : Array Value) (n n2 : Nat) (dd dd2 : Option Addr) (sl sl2 : Array (Option Value)) (hsz : items.size = items2.size) :
    Meets (Builtin.«tuple.__lt__» ⟨[.ref l, .ref b], []⟩)
      (fun A R s => (s.heap.get? l = some { cls := .type "tuple", dict := dd, data := .seq items n, slots := sl } ∧ s.heap.get? b = some { cls := .type "tuple", dict := dd2, data := .seq items2 n2, slots := sl2 }) ∧
        (∀ p ∈ items.toList.zip items2.toList, EqAt A.in1 s p.1 p.2 true) ∧ R (.ok (.ret (.bool false))) s) :=
  .of_wp fun prog w A R s h => by
    obtain ⟨hp, g, d, tk, os⟩ := s
    obtain ⟨⟨hl, hb⟩, he, hR⟩ := h
    have f2 := AutoSeq1.sub_tuple_tuple
    wp_walk using AutoSeq1.wpAny_loadPart' hl, AutoSeq1.wpAny_loadPart' hb, wpAny_forIn_list _ (fun rest k s' => (k.1 = none ∧ s' = ⟨hp, g, d, tk, os⟩) ∧ ∀ p ∈ rest, p ∈ items.toList.zip items2.toList) _
    case turn =>
      rintro ⟨y, x⟩ rest k s' ⟨⟨hk, rfl⟩, hz⟩
      have e1 := he _ (hz _ List.mem_cons_self)
      refine wpAny_bind (e1 prog w _ _ ?_)
      wp_walk
      exact ⟨⟨rfl, rfl⟩, fun p hp' => hz p (List.mem_cons_of_mem _ hp')⟩
    case fin =>
      rintro ⟨k1, k2⟩ s' ⟨⟨hk, rfl⟩, hz⟩
      simp only at hk
      subst hk
      wp_walk
      exact ⟨_, rfl, by simpa [Builtin.Tuple.tupleCompareSizes, hsz] using hR⟩
    case h =>
      exact ⟨⟨rfl, rfl⟩, fun p hp' => hp'⟩
theorem ltAt_alike {A : Around} {s : Shared} {l b : Addr} {items items2 : Array Value} (hl : IsTup s.heap l items) (hb : IsTup s.heap b items2) (hsz : items.size = items2.size) (he : ∀ p ∈ items.toList.zip items2.toList, EqAt A.in1 s p.1 p.2 true) (hu : A.units < cLine) :
    LtAt A s (.ref l) (.ref b) false := by
  intro prog w Er Qr hq
  obtain ⟨⟨cls, dd, data, sl⟩, ho, hc, n, hd⟩ := hl
  obtain ⟨⟨cls2, dd2, data2, sl2⟩, ho2, hc2, n2, hd2⟩ := hb
  dsimp only at hc hd hc2 hd2
  cases hc; cases hd; cases hc2; cases hd2
  exact richCompare_meets_room (op := .Lt) (Q := Qr) ⟨_, ho, rfl⟩ ⟨_, ho2, rfl⟩ PySem.F.slot_tuple_lt PySem.F.entry_tuple_lt (PySem.F.args_tuple_lt_2 _ _) (alike_lt l b items items2 n n2 dd dd2 sl sl2 hsz)
    ⟨⟨ho, ho2⟩, he, (fun z => nomatch z), hq⟩ hu
mutual
theorem nested_kept {h h' : Heap} (k : ∀ c o, h.get? c = some o → h'.get? c = some o) : ∀ (x : NestedKey) (v : Value), NestedIs h x v → NestedIs h' x v
  | .none, _, q => by cases q; exact .none
  | .num i, _, q => by
    cases q with
    | bool e => exact .bool e
    | int _ t => exact .int _ t
  | .text z, _, q => by cases q; exact .text _ _
  | .tup ks, _, q => by
    cases q with
    | tup h1 h2 h3 h4 => exact .tup (k _ _ h1) h2 h3 (nested_keptAll k ks _ h4)
theorem nested_keptAll {h h' : Heap} (k : ∀ c o, h.get? c = some o → h'.get? c = some o) : ∀ (xs : List NestedKey) (vs : List Value), NestedAll h xs vs → NestedAll h' xs vs
  | [], _, q => by cases q; exact .nil
  | x :: xs, _, q => by
    cases q with
    | cons h1 h2 => exact .cons (nested_kept k x _ h1) (nested_keptAll k xs _ h2)
end
theorem depth_all_le : ∀ (ks : List NestedKey) (k : NestedKey), k ∈ ks → k.depth ≤ NestedKey.depthAll ks
  | [], _, h => by cases h
  | x :: r, k, h => by
    rw [NestedKey.depthAll]
    rcases List.mem_cons.mp h with rfl | h
    · omega
    · have := depth_all_le r k h
      omega
theorem zip_same {h h' : Heap} : ∀ (ks : List NestedKey) (vs ws : List Value), NestedAll h ks vs → NestedAll h' ks ws → (vs.length = ws.length) ∧ ∀ p ∈ vs.zip ws, ∃ k ∈ ks, NestedIs h k p.1 ∧ NestedIs h' k p.2
  | [], _, _, a, b => by
    cases a
    cases b
    exact ⟨rfl, fun p hp => by cases hp⟩
  | k :: ks, _, _, a, b => by
    cases a with
    | cons a1 a2 =>
      cases b with
      | cons b1 b2 =>
        obtain ⟨h1, h2⟩ := zip_same ks _ _ a2 b2
        refine ⟨congrArg (· + 1) h1, fun p hp => ?_⟩
        rw [List.zip_cons_cons] at hp
        rcases List.mem_cons.mp hp with rfl | hp
        · exact ⟨k, List.mem_cons_self, a1, b1⟩
        · obtain ⟨k', hk, q⟩ := h2 p hp
          exact ⟨k', List.mem_cons_of_mem _ hk, q⟩
/-- min of two equal tuples: the first -/
def rMinE (K : PySem.W.Frag) : List V → Hp → VK → Prop := fun xs H Q => ∃ (a b : Addr) (ks : List NestedKey), xs = [.ref a, .ref b] ∧ Nk K H (.ref a) (.tup ks) ∧ Nk K H (.ref b) (.tup ks) ∧ NestedKey.depthAll ks ≤ 8 ∧ Q (.ref a) H
theorem call_minE {X : Cx} (hc : X.calm = true) (hu : X.A.units + 64 < cLine) : CallR X (.builtin "min") (rMinE X.K) := by
  intro pins s σ H xs us Q I r h
  obtain ⟨a, b, ks, rfl, ha, hb, hd, g⟩ := h
  obtain ⟨u1, u2, rfl, r1, r2⟩ := vals2 r
  obtain rfl : u1 = Value.ref a := r1
  obtain rfl : u2 = Value.ref b := r2
  have n1 := Nk.is I _ _ (Value.ref a) ha rfl
  have n2 := Nk.is I _ _ (Value.ref b) hb rfl
  have cmp : ∀ (s' : Shared), (∀ c o, s.heap.get? c = some o → s'.heap.get? c = some o) → ∀ (l m : Addr), NestedIs s.heap (.tup ks) (.ref l) → NestedIs s.heap (.tup ks) (.ref m) → LtAt X.A.in1 s' (.ref l) (.ref m) false := fun s' k l m h1 h2 => by
    have h1' := nested_kept k _ _ h1
    have h2' := nested_kept k _ _ h2
    cases h1' with
    | tup a1 a2 a3 a4 =>
      cases h2' with
      | tup b1 b2 b3 b4 =>
        obtain ⟨ln, zz⟩ := zip_same ks _ _ a4 b4
        refine ltAt_alike ⟨_, a1, a2, _, a3⟩ ⟨_, b1, b2, _, b3⟩ (by simpa using ln) (fun p hp => ?_) (by show X.A.units + 1 < cLine; omega)
        obtain ⟨k', hk, q1, q2⟩ := zz p hp
        have dk := depth_all_le ks k' hk
        exact (eqAt_key k' k' X.A.in1.in1 s' _ _ q1 q2 (by show X.A.units + 1 + 1 + min _ _ < cLine; omega)).cast (NestedKey.beq_self k')
  refine min_pair (I.ok.hd hc) (fun _ => []) (fun s' k i j x y hx hy => ?_) fun h' tk k => ⟨.ref a, H, I.kept k, rfl, g⟩
  have sp : ∀ (i : Nat) (x : Value), (#[Value.ref a, Value.ref b] : Array Value)[i]? = some x → x = .ref a ∨ x = .ref b := fun i x hx => by
    match i with
    | 0 => exact .inl (Option.some.inj hx).symm
    | 1 => exact .inr (Option.some.inj hx).symm
    | n + 2 => simp at hx
  rcases sp i x hx with rfl | rfl <;> rcases sp j y hy with rfl | rfl
  · exact cmp s' k _ _ n1 n1
  · exact cmp s' k _ _ n1 n2
  · exact cmp s' k _ _ n2 n1
  · exact cmp s' k _ _ n2 n2
theorem call_minQ {X : Cx} (hc : X.calm = true) (hu : X.A.units + 64 < cLine) : CallR X (.builtin "min") (fun xs H Q => rMinP X.K xs H Q ∨ rMinE X.K xs H Q) := by
  intro pins s σ H xs us Q I r h
  rcases h with h | h
  · exact call_minP hc hu pins s σ H xs us Q I r h
  · exact call_minE hc hu pins s σ H xs us Q I r h
end Bs
namespace Bs
open PySem L2 TL PySem.Spec PyProof.Rows
def forBody : Stmt → List Stmt
  | .For _ _ b _ _ => b
  | .While _ b _ _ => b
  | _ => []
/-! ### comprehensions whose elements are new objects -/
/-- what is said of an object stands when others are made, and when a list is changed -/
structure Stay {α : Type} (P : Hp → Addr → α → Prop) : Prop where
  same : ∀ {H H' : Hp} {a : Addr} {y : α}, P H a y → Same H H' → P H' a y
  lst : ∀ {H : Hp} {D a : Addr} {l l' : List V} {y : α}, H D = some (.lst l) → P H a y → P (upd H D (.lst l')) a y
def rsv {α : Type} (rs : List (Addr × α)) : List V := rs.map fun r => V.ref r.1
def RsAll {α : Type} (P : Hp → Addr → α → Prop) (H : Hp) (rs : List (Addr × α)) : Prop := ∀ r ∈ rs, P H r.1 r.2
theorem RsAll.same {α : Type} {P : Hp → Addr → α → Prop} (st : Stay P) {H H' : Hp} {rs : List (Addr × α)} (h : RsAll P H rs) (s : Same H H') : RsAll P H' rs := fun r hr => st.same (h r hr) s
theorem lc_rsF {α : Type} {P : Hp → Addr → α → Prop} (st : Stay P) {J : It} {n : Nat} {G : Hp → Prop} {Y : Nat → Hp → V → Hp → Prop} (w : Walk J n G Y) {g : TG} {tt : TT} {te : TE} {vs : List Nat} {σ : L2.St} {H1 : Hp} {D : Addr} {Qd : Hp → Prop} (ys : Nat → List α) (hy0 : ys 0 = []) (hD : H1 D = none) (hn : n ≤ 1000)
    (hl : ∀ i, i ≤ n → (ys i).length ≤ i) (hG : ∀ H', Same H1 H' → G H') (hY : ∀ i H x H', Y i H x H' → Same H H')
    (hs : ∀ i x H H' (N : Hp → Prop) (R : VK), i < n → Same H1 H' → Y i H x H' → (ys (i + 1) = ys i → ∀ H4, Same H' H4 → N H4) → (∀ y, ys (i + 1) = ys i ++ [y] → ∀ H4 a, Same H' H4 → P H4 a y → R (.ref a) H4) → g x (wipe σ vs) H' fun σ2 H2 => wipe σ2 vs = wipe σ vs ∧ tt σ2 H2 fun b H3 => if b = true then te σ2 H3 R else N H3)
    (hd : ∀ H' rs, Same H1 H' → H' D = some (.lst (rsv rs)) → RsAll P H' rs → rs.map (·.2) = ys n → Qd H') : LoopC J g tt te vs σ H1 D Qd := by
  refine loopc_it w (fun i H => Same H1 H ∧ ∃ rs, H D = some (.lst (rsv rs)) ∧ RsAll P H rs ∧ rs.map (·.2) = ys i) ⟨same_upd hD, [], upd_same, fun _ h => (by cases h), hy0.symm⟩ (fun i H _ p => hG H p.1) (fun i x H H' hi p y => ?_) (fun H p => ?_)
  · obtain ⟨s1, rs, e1, ha, hr⟩ := p
    have hYs := hY _ _ _ _ y
    refine hs i x H H' _ _ hi (s1.trans hYs) y (fun e H4 s4 => ?_) (fun z e H4 a s4 pz => ?_)
    · exact ⟨(s1.trans hYs).trans s4, rs, s4 _ _ (hYs _ _ e1), ha.same st (hYs.trans s4), by rw [e]; exact hr⟩
    · have e4 := s4 _ _ (hYs _ _ e1)
      have hl' := hl i (by omega)
      have hlen : rs.length = (ys i).length := by rw [← hr, List.length_map]
      refine ⟨_, e4, ?_, same_upd2 (s1.trans (hYs.trans s4)) hD, rs ++ [(a, z)], ?_, fun r h => ?_, ?_⟩
      · rw [rsv, List.length_map]
        exact small1000 (by omega)
      · rw [upd_same, rsv, rsv, List.map_append]
        rfl
      · rcases List.mem_append.mp h with h | h
        · exact st.lst e4 (ha.same st (hYs.trans s4) r h)
        · rw [List.mem_singleton.mp h]
          exact st.lst e4 pz
      · rw [e, List.map_append, hr]
        rfl
  · obtain ⟨s1, rs, e1, ha, hr⟩ := p
    exact hd H rs s1 e1 ha hr
theorem lc_rs {α : Type} {P : Hp → Addr → α → Prop} (st : Stay P) {J : It} {n : Nat} {G : Hp → Prop} {Y : Nat → Hp → V → Hp → Prop} (w : Walk J n G Y) {g : TG} {te : TE} {vs : List Nat} {σ : L2.St} {H1 : Hp} {D : Addr} {Qd : Hp → Prop} (ys : List α) (hD : H1 D = none) (hn : n ≤ 1000) (hl : ys.length = n)
    (hG : ∀ H', Same H1 H' → G H') (hY : ∀ i H x H', Y i H x H' → Same H H')
    (hs : ∀ i x y H H' (R : VK), i < n → ys[i]? = some y → Same H1 H' → Y i H x H' → (∀ H4 a, Same H' H4 → P H4 a y → R (.ref a) H4) → g x (wipe σ vs) H' fun σ2 H2 => wipe σ2 vs = wipe σ vs ∧ te σ2 H2 R)
    (hd : ∀ H' rs, Same H1 H' → H' D = some (.lst (rsv rs)) → RsAll P H' rs → rs.map (·.2) = ys → Qd H') : LoopC J g tYes te vs σ H1 D Qd := by
  refine lc_rsF st w (fun i => ys.take i) List.take_zero hD hn (fun i hi => by rw [List.length_take]; omega) hG hY (fun i x H H' N R hi s1 y kN kR => ?_) (fun H' rs s e a hr => hd H' rs s e a (by rw [hr, ← hl, List.take_length]))
  have hi' : i < ys.length := by omega
  have e : ys[i]? = some ys[i] := List.getElem?_eq_getElem hi'
  have q := hs i x ys[i] H H' R hi e s1 y (fun H4 a s4 p => kR _ (by rw [List.take_succ_eq_append_getElem hi']) H4 a s4 p)
  exact q
/-- [1 for x in xs if t(x)]: how many there are -/
theorem lc_count {J : It} {n : Nat} {G : Hp → Prop} {Y : Nat → Hp → V → Hp → Prop} (w : Walk J n G Y) {g : TG} {tt : TT} {te : TE} {vs : List Nat} {σ : L2.St} {H1 : Hp} {D : Addr} {Qd : Hp → Prop} (b : Nat → Bool) (f : Nat → V) (hD : H1 D = none) (hn : n ≤ 1000)
    (hG : ∀ H', Same H1 H' → G H') (hY : ∀ i H x H', Y i H x H' → Same H H')
    (hs : ∀ i x H H' (N : Hp → Prop) (R : VK), i < n → Same H1 H' → Y i H x H' → (b i = false → ∀ H4, Same H' H4 → N H4) → (b i = true → ∀ H4, Same H' H4 → R (f i) H4) → g x (wipe σ vs) H' fun σ2 H2 => wipe σ2 vs = wipe σ vs ∧ tt σ2 H2 fun b H3 => if b = true then te σ2 H3 R else N H3)
    (hd : ∀ H', Same H1 H' → H' D = some (.lst (((List.range n).filter b).map f)) → Qd H') : LoopC J g tt te vs σ H1 D Qd := by
  refine loopc_it w (fun i H => Same H1 H ∧ H D = some (.lst (((List.range i).filter b).map f))) ⟨same_upd hD, upd_same⟩ (fun i H _ p => hG H p.1) (fun i x H H' hi p y => ?_) (fun H p => hd H p.1 p.2)
  have hYs := hY _ _ _ _ y
  refine hs i x H H' _ _ hi (p.1.trans hYs) y (fun hb H4 s4 => ⟨p.1.trans (hYs.trans s4), ?_⟩) (fun hb H4 s4 => ⟨_, s4 _ _ (hYs _ _ p.2), ?_, same_upd2 (p.1.trans (hYs.trans s4)) hD, ?_⟩)
  · rw [List.range_succ, List.filter_append, List.filter_cons, hb, if_neg (by decide), List.filter_nil, List.append_nil]
    exact s4 _ _ (hYs _ _ p.2)
  · rw [List.length_map]
    exact small1000 (Nat.le_trans (List.length_filter_le _ _) (by rw [List.length_range]; omega))
  · rw [upd_same, List.range_succ, List.filter_append, List.filter_cons, hb, if_pos rfl, List.filter_nil, List.map_append]
    rfl
theorem range_filter_any {α : Type} (d : α) (b : α → Bool) : ∀ ys : List α, (List.range ys.length).any (fun i => b (ys[i]?.getD d)) = ys.any b := fun ys => by
  conv => rhs; rw [← range_getD d ys, List.any_map]
  rfl
theorem filter_len_pos {α : Type} (l : List α) (b : α → Bool) : decide (0 < ((l.filter b).length : Int)) = l.any b := by
  induction l with
  | nil => rfl
  | cons x r ih =>
    rw [List.filter_cons, List.any_cons]
    cases hb : b x with
    | true =>
      rw [if_pos rfl, List.length_cons]
      exact decide_eq_true (by omega)
    | false =>
      rw [if_neg (by decide), ih]
      rfl
end Bs
namespace Bs
open PySem L2 TL PySem.Spec PyProof.Rows PySem.SeqAt
/-- min of two tuples of ints -/
def rMinI (K : PySem.W.Frag) : List V → Hp → VK → Prop := fun xs H Q => ∃ (a b : Addr) (e1 e2 : List Int), xs = [.ref a, .ref b] ∧ SqT K H a (e1.map V.int) ∧ SqT K H b (e2.map V.int) ∧ Q (if HT.lexLt e2 e1 then .ref b else .ref a) H
theorem call_minI {X : Cx} (hc : X.calm = true) (hu : X.A.units + 64 < cLine) : CallR X (.builtin "min") (rMinI X.K) := by
  intro pins s σ H xs us Q I r h
  obtain ⟨a, b, e1, e2, rfl, ha, hb, g⟩ := h
  obtain ⟨u1, u2, rfl, r1, r2⟩ := vals2 r
  obtain rfl : u1 = Value.ref a := r1
  obtain rfl : u2 = Value.ref b := r2
  obtain ⟨i1, v1, pa, _⟩ := I.tuple ha
  obtain ⟨i2, v2, pb, _⟩ := I.tuple hb
  have cmp : ∀ (s' : Shared), (∀ c o, s.heap.get? c = some o → s'.heap.get? c = some o) → ∀ (c d : Addr) (j1 j2 : List Value) (f1 f2 : List Int), IsTup s.heap c j1.toArray → IsTup s.heap d j2.toArray →
      Vals (f1.map V.int) j1 → Vals (f2.map V.int) j2 → LtAt X.A.in1 s' (.ref c) (.ref d) (HT.lexLt f1 f2) := fun s' k c d j1 j2 f1 f2 hc' hd' w1 w2 =>
    ltAt_ints (tup_kept k hc') (tup_kept k hd') (intsAre_of w1) (intsAre_of w2) (by show X.A.units + 1 < cLine; omega)
  refine min_pair (I.ok.hd hc) (fun i => if i = 0 then e1 else e2) (fun s' k i j x y hx hy => ?_) fun h' tk k => ⟨_, H, I.kept k, ?_, g⟩
  · have sp : ∀ (i : Nat) (x : Value), (#[Value.ref a, Value.ref b] : Array Value)[i]? = some x → (i = 0 ∧ x = .ref a) ∨ (i = 1 ∧ x = .ref b) := fun i x hx => by
      match i with
      | 0 => exact .inl ⟨rfl, (Option.some.inj hx).symm⟩
      | 1 => exact .inr ⟨rfl, (Option.some.inj hx).symm⟩
      | n + 2 => simp at hx
    rcases sp i x hx with ⟨rfl, rfl⟩ | ⟨rfl, rfl⟩ <;> rcases sp j y hy with ⟨rfl, rfl⟩ | ⟨rfl, rfl⟩
    · exact cmp s' k _ _ _ _ _ _ pa pa v1 v1
    · exact cmp s' k _ _ _ _ _ _ pa pb v1 v2
    · exact cmp s' k _ _ _ _ _ _ pb pa v2 v1
    · exact cmp s' k _ _ _ _ _ _ pb pb v2 v2
  · show RelV (if HT.lexLt e2 e1 = true then V.ref b else V.ref a) (if HT.lexLt e2 e1 = true then Value.ref b else Value.ref a)
    split <;> rfl
/-- [f(x) for x in a tuple, a list of ints] -/
theorem lc_tupV {K : PySem.W.Frag} {a : Addr} {xs : List Int} {g : TG} {te : TE} {vs : List Nat} {σ : L2.St} {H1 : Hp} {D : Addr} {Qd : Hp → Prop} (f : Int → V) (hX : SqT K H1 a (xs.map V.int)) (hD : H1 D = none) (hn : xs.length ≤ 1000)
    (hs : ∀ x H' (R : VK), x ∈ xs → Same H1 H' → (∀ H4, Same H' H4 → R (f x) H4) → g (.int x) (wipe σ vs) H' fun σ2 H2 => wipe σ2 vs = wipe σ vs ∧ te σ2 H2 R)
    (hd : ∀ H', Same H1 H' → H' D = some (.lst (xs.map f)) → Qd H') : LoopC (Itt K a) g tYes te vs σ H1 D Qd := by
  refine lc_yat (walk_tup (xs := xs.map V.int)) rfl (fun v => match v with | .int x => f x | v => v) hD (by rw [List.length_map]; exact hn) (fun H' s => sameT s hX) (fun x H' R hx s1 k => ?_) (fun H' s' e => hd H' s' ?_)
  · obtain ⟨z, hz, rfl⟩ := List.mem_map.mp hx
    exact hs z H' R hz s1 k
  · rw [e, List.map_map]
    rfl
theorem lc_lstV {K : PySem.W.Frag} {a : Addr} {xs : List Int} {g : TG} {te : TE} {vs : List Nat} {σ : L2.St} {H1 : Hp} {D : Addr} {Qd : Hp → Prop} (f : Int → V) (hX : SqL K H1 a (xs.map V.int)) (hD : H1 D = none) (hn : xs.length ≤ 1000)
    (hs : ∀ x H' (R : VK), x ∈ xs → Same H1 H' → (∀ H4, Same H' H4 → R (f x) H4) → g (.int x) (wipe σ vs) H' fun σ2 H2 => wipe σ2 vs = wipe σ vs ∧ te σ2 H2 R)
    (hd : ∀ H', Same H1 H' → H' D = some (.lst (xs.map f)) → Qd H') : LoopC (Itl K a) g tYes te vs σ H1 D Qd := by
  refine lc_yat (walk_list (xs := xs.map V.int)) rfl (fun v => match v with | .int x => f x | v => v) hD (by rw [List.length_map]; exact hn) (fun H' s => s.seq hX) (fun x H' R hx s1 k => ?_) (fun H' s' e => hd H' s' ?_)
  · obtain ⟨z, hz, rfl⟩ := List.mem_map.mp hx
    exact hs z H' R hz s1 k
  · rw [e, List.map_map]
    rfl
/-- within a comprehension: the fragment is told -/
theorem pi_tupK {X : Cx} {K : PySem.W.Frag} {tg l : Expr} {tl : TE} (hK : X.K = K) (hl : PE X l tl) : PI X tg l (iTup K tl) := by
  subst hK
  exact pi_tup hl
theorem pi_listK {X : Cx} {K : PySem.W.Frag} {tg l : Expr} {tl : TE} (hK : X.K = K) (hl : PE X l tl) : PI X tg l (iList K tl) := by
  subst hK
  exact pi_list hl
theorem op_eqDK {X : Cx} {K : PySem.W.Frag} (hK : X.K = K) (hu : X.A.units + 64 < cLine) : OpR X (compareOp .Eq) (rEqD K) := by
  subst hK
  exact op_eqD hu
theorem op_neDK {X : Cx} {K : PySem.W.Frag} (hK : X.K = K) (hu : X.A.units + 64 < cLine) : OpR X (compareOp .NotEq) (rNeD K) := by
  subst hK
  exact op_neD hu
/-! ### slices of tuples -/
theorem sl_gen {K : PySem.W.Frag} {H : Hp} {a : Addr} {xs : List V} {lo hi : Option Int} {Q : VK} (h : SqT K H a xs) (q : ∀ H' p, Same H H' → SqT K H' p (cutV xs lo hi) → Q (.ref p) H') : rSlA K (.ref a) lo hi H Q := by
  refine ⟨a, xs, rfl, h, fun z => q H a (Same.refl _) ?_, fun _ p np => q _ p (same_upd np) (SqT.of upd_same)⟩
  have e : cutV xs lo hi = xs := by
    unfold cutV
    rw [z.1, z.2, List.drop_zero, Nat.sub_zero, List.take_length]
  rw [e]
  exact h
theorem cut_last (xs : List V) (x : V) : cutV (xs ++ [x]) (some (-1)) none = [x] := by
  unfold cutV
  rw [HT.sIx_none, List.length_append, List.length_singleton]
  have e : HT.sIx (xs.length + 1) 0 (some (-1)) = xs.length := by
    show (if (-1 : Int) < 0 then ((-1 : Int) + ((xs.length + 1 : Nat) : Int)).toNat else min (-1 : Int).toNat (xs.length + 1)) = xs.length
    rw [if_pos (by decide)]
    omega
  rw [e, List.drop_left, show xs.length + 1 - xs.length = 1 by omega]
  rfl
theorem sl_last {K : PySem.W.Frag} {H : Hp} {a : Addr} {xs : List V} {x : V} {Q : VK} (h : SqT K H a (xs ++ [x])) (q : ∀ H' p, Same H H' → SqT K H' p [x] → Q (.ref p) H') : rSlA K (.ref a) (some (-1)) none H Q :=
  sl_gen h (by rw [cut_last]; exact q)
theorem Stm.put {H : Hp} {st d p la : Addr} {o : HO} (x : Stm H st d p) (n1 : st ≠ la) (n2 : d ≠ la) (n3 : p ≠ la) : Stm (upd H la o) st d p :=
  ⟨by rw [upd_ne n1]; exact x.at_, let ⟨ds, h, n⟩ := x.dg; ⟨ds, by rw [upd_ne n2]; exact h, n⟩, let ⟨i, h⟩ := x.pl; ⟨i, by rw [upd_ne n3]; exact h⟩, x.n1, x.n2⟩
/-! ### a comprehension with two loops -/
def LoopI (J1 : It) (g1 : TG) (tt1 : TT) (te : TE) (vs1 : List Nat) (σ2 : L2.St) (H4 : Hp) (D : Addr) (N : Hp → Prop) : Prop := ∃ W1 : Nat → Nat → Hp → Prop, (∃ m, W1 0 m H4) ∧ ∀ j k H, W1 j k H →
  (J1.stop j H ∧ N H) ∨ (J1.go j H ∧ ∃ Nx1 : Hp → Prop, (∀ H', Nx1 H' → ∃ k', k' < k ∧ W1 (j + 1) k' H') ∧ ∀ x H', J1.yld j H x H' → g1 x (wipe σ2 vs1) H' fun σ3 H5 => wipe σ3 vs1 = wipe σ2 vs1 ∧ tt1 σ3 H5 fun b H6 =>
    if b = true then te σ3 H6 fun y H7 => ∃ acc, H7 D = some (.lst acc) ∧ acc.length < sizeLine ∧ Nx1 (upd H7 D (.lst (acc ++ [y]))) else Nx1 H6)
def LoopC2 (J : It) (g : TG) (tt : TT) (wi1 : TI) (g1 : TG) (tt1 : TT) (te : TE) (vs vs1 : List Nat) (σ : L2.St) (H1 : Hp) (D : Addr) (Qd : Hp → Prop) : Prop := ∃ W : Nat → Nat → Hp → Prop, (∃ m, W 0 m (upd H1 D (.lst []))) ∧ ∀ i m H, W i m H →
  (J.stop i H ∧ Qd H) ∨ (J.go i H ∧ ∃ Nx : Hp → Prop, (∀ H', Nx H' → ∃ m', m' < m ∧ W (i + 1) m' H') ∧ ∀ x H', J.yld i H x H' → g x (wipe σ vs) H' fun σ2 H2 => wipe σ2 vs = wipe σ vs ∧ tt σ2 H2 fun b H3 =>
    if b = true then wi1 σ2 H3 fun J1 H4 => LoopI J1 g1 tt1 te vs1 σ2 H4 D Nx else Nx H3)
theorem lc2_eq (wi : TI) (g : TG) (tt : TT) (wi1 : TI) (g1 : TG) (tt1 : TT) (te : TE) (vs vs1 : List Nat) (σ : L2.St) (H : Hp) (Q : VK) : tLc2 wi g tt wi1 g1 tt1 te vs vs1 σ H Q = wi σ H fun J H1 => ∀ D, H1 D = none → LoopC2 J g tt wi1 g1 tt1 te vs vs1 σ H1 D (fun H => Q (.ref D) H) := rfl
theorem loopc2_it {J : It} {n : Nat} {G : Hp → Prop} {Y : Nat → Hp → V → Hp → Prop} (w : Walk J n G Y) {g : TG} {tt : TT} {wi1 : TI} {g1 : TG} {tt1 : TT} {te : TE} {vs vs1 : List Nat} {σ : L2.St} {H1 : Hp} {D : Addr} {Qd : Hp → Prop} (Pv : Nat → Hp → Prop) (h0 : Pv 0 (upd H1 D (.lst []))) (hG : ∀ i H, i ≤ n → Pv i H → G H)
    (hs : ∀ i x H H', i < n → Pv i H → Y i H x H' → g x (wipe σ vs) H' fun σ2 H2 => wipe σ2 vs = wipe σ vs ∧ tt σ2 H2 fun b H3 =>
      if b = true then wi1 σ2 H3 fun J1 H4 => LoopI J1 g1 tt1 te vs1 σ2 H4 D (Pv (i + 1)) else Pv (i + 1) H3) (hd : ∀ H, Pv n H → Qd H) : LoopC2 J g tt wi1 g1 tt1 te vs vs1 σ H1 D Qd := by
  refine ⟨fun i m H => m = n - i ∧ i ≤ n ∧ Pv i H, ⟨n, by simp, Nat.zero_le _, h0⟩, ?_⟩
  rintro i m H ⟨rfl, hi, p⟩
  have q := hG i H hi p
  by_cases hlt : i < n
  · refine .inr ⟨w.goes i H hlt q, Pv (i + 1), fun H' p' => ⟨n - (i + 1), by omega, rfl, hlt, p'⟩, fun x H' y => hs i x H H' hlt p (w.yields i H x H' hlt q y)⟩
  · have e : i = n := by omega
    subst e
    exact .inl ⟨w.stops H q, hd H p⟩
theorem loopi_it {J : It} {n : Nat} {G : Hp → Prop} {Y : Nat → Hp → V → Hp → Prop} (w : Walk J n G Y) {g : TG} {tt : TT} {te : TE} {vs : List Nat} {σ : L2.St} {H1 : Hp} {D : Addr} {Qd : Hp → Prop} (Pv : Nat → Hp → Prop) (h0 : Pv 0 H1) (hG : ∀ i H, i ≤ n → Pv i H → G H)
    (hs : ∀ i x H H', i < n → Pv i H → Y i H x H' → g x (wipe σ vs) H' fun σ2 H2 => wipe σ2 vs = wipe σ vs ∧ tt σ2 H2 fun b H3 =>
      if b = true then te σ2 H3 fun y H4 => ∃ acc, H4 D = some (.lst acc) ∧ acc.length < sizeLine ∧ Pv (i + 1) (upd H4 D (.lst (acc ++ [y]))) else Pv (i + 1) H3) (hd : ∀ H, Pv n H → Qd H) : LoopI J g tt te vs σ H1 D Qd := by
  refine ⟨fun i m H => m = n - i ∧ i ≤ n ∧ Pv i H, ⟨n, by simp, Nat.zero_le _, h0⟩, ?_⟩
  rintro i m H ⟨rfl, hi, p⟩
  have q := hG i H hi p
  by_cases hlt : i < n
  · refine .inr ⟨w.goes i H hlt q, Pv (i + 1), fun H' p' => ⟨n - (i + 1), by omega, rfl, hlt, p'⟩, fun x H' y => hs i x H H' hlt p (w.yields i H x H' hlt q y)⟩
  · have e : i = n := by omega
    subst e
    exact .inl ⟨w.stops H q, hd H p⟩
/-- [x for x in xs if b(x)], of a list of objects -/
theorem lc_filt {α : Type} {K : PySem.W.Frag} {a : Addr} {rs : List (Addr × α)} {g : TG} {tt : TT} {te : TE} {vs : List Nat} {σ : L2.St} {H1 : Hp} {D : Addr} {Qd : Hp → Prop} (b : α → Bool) (hX : SqL K H1 a (rsv rs)) (hD : H1 D = none) (hn : rs.length ≤ 1000)
    (hs : ∀ r H' (N : Hp → Prop) (R : VK), r ∈ rs → Same H1 H' → (b r.2 = false → ∀ H4, Same H' H4 → N H4) → (b r.2 = true → ∀ H4, Same H' H4 → R (.ref r.1) H4) → g (.ref r.1) (wipe σ vs) H' fun σ2 H2 => wipe σ2 vs = wipe σ vs ∧ tt σ2 H2 fun b H3 => if b = true then te σ2 H3 R else N H3)
    (hd : ∀ H', Same H1 H' → H' D = some (.lst (rsv (rs.filter fun r => b r.2))) → Qd H') : LoopC (Itl K a) g tt te vs σ H1 D Qd := by
  refine loopc_it (walk_list (xs := rsv rs)) (fun i H => Same H1 H ∧ H D = some (.lst (rsv ((rs.take i).filter fun r => b r.2)))) ⟨same_upd hD, upd_same⟩ (fun i H _ p => p.1.seq hX) (fun i x H H' hi p y => ?_) (fun H p => hd H p.1 ?_)
  · obtain ⟨rfl, e⟩ := yat_at y
    rw [rsv, List.length_map] at hi
    rw [rsv, List.getElem?_map, List.getElem?_eq_getElem hi] at e
    cases e
    have hm := List.getElem_mem hi
    have et : rs.take (i + 1) = rs.take i ++ [rs[i]] := List.take_succ_eq_append_getElem hi
    generalize rs[i] = r at *
    refine hs r _ _ _ hm p.1 (fun hb H4 s4 => ⟨p.1.trans s4, ?_⟩) (fun hb H4 s4 => ⟨_, s4 _ _ p.2, ?_, same_upd2 (p.1.trans s4) hD, ?_⟩)
    · rw [et, List.filter_append, List.filter_cons, hb, if_neg (by decide), List.filter_nil, List.append_nil]
      exact s4 _ _ p.2
    · rw [rsv, List.length_map]
      exact small1000 (Nat.le_trans (List.length_filter_le _ _) (by rw [List.length_take]; omega))
    · rw [upd_same, et, List.filter_append, List.filter_cons, hb, if_pos rfl, List.filter_nil, rsv, rsv, List.map_append]
      rfl
  · rw [p.2, show (rsv rs).length = rs.length from List.length_map .., List.take_length]
/-- [f(x) for x in xs], a list of objects, values that are no objects -/
theorem lc_objV {α : Type} {K : PySem.W.Frag} {a : Addr} {rs : List (Addr × α)} {g : TG} {te : TE} {vs : List Nat} {σ : L2.St} {H1 : Hp} {D : Addr} {Qd : Hp → Prop} (f : Addr × α → V) (hX : SqL K H1 a (rsv rs)) (hD : H1 D = none) (hn : rs.length ≤ 1000)
    (hs : ∀ r H' (R : VK), r ∈ rs → Same H1 H' → (∀ H4, Same H' H4 → R (f r) H4) → g (.ref r.1) (wipe σ vs) H' fun σ2 H2 => wipe σ2 vs = wipe σ vs ∧ te σ2 H2 R)
    (hd : ∀ H', Same H1 H' → H' D = some (.lst (rs.map f)) → Qd H') : LoopC (Itl K a) g tYes te vs σ H1 D Qd := by
  refine lc_ys (walk_list (xs := rsv rs)) (rs.map f) hD (by rw [rsv, List.length_map]; exact hn) (by rw [rsv, List.length_map, List.length_map]) (fun H' s => s.seq hX) yat_same (fun i x y H1 H2 R hi hy s1 yy k => ?_) hd
  obtain ⟨rfl, e⟩ := yat_at yy
  rw [rsv, List.length_map] at hi
  rw [rsv, List.getElem?_map, List.getElem?_eq_getElem hi] at e
  rw [List.getElem?_map, List.getElem?_eq_getElem hi] at hy
  cases e
  cases hy
  exact hs _ _ R (List.getElem_mem hi) s1 k
end Bs
namespace K81
open PySem L2 TL Bs
local macro_rules | `(tactic| walk_at "wp") => `(tactic| simp only [tSeq, tAsg, tPar, gName, gTup, gCons, gNil, tVar, tC, tOp, tUn, rI, rI0, rU, tCB, tCons, tNil, tIfS, tRet, tRetN, tNext, tNever, test_eq, tB, tTup, tLst, tCall, tIf, tAndV, tOrV, tNotV, tNot, tAnd, tOr, rEq, rNe, scal_ii, scal_ss, scal_bb, dec_ii, dec_ss, dec_bb, for_eq, lc_eq, lc2_eq, while_eq, tDrop, tYes, iList, iTup, iOr, tDNewN, tNSet, rNSet, sFld, tFld, tMake, tProp, tMeth, cxP, cxW, iStr, iRng1, iRng2, RZ.iZipA, L2.start, rIxL, rIxT, rIxS, rSlS, cxK, tSl, tPart, tNoPart, tBM, tBM0, rAppend, rExtend, rRepS, rGcd,  gSub, rSetL, tAug, ipI, rAdd, rSub, tM1, tM0,
  List.map_cons, List.map_nil, List.length_cons, List.length_nil, List.cons_append, List.nil_append, List.append_nil, List.getElem?_cons_succ, List.getElem?_cons_zero, List.set_cons_succ, List.set_cons_zero, Nat.reduceAdd, Nat.reduceSub, List.replicate_succ, List.replicate_zero, wipe,
  Option.some.injEq, V.int.injEq, V.str.injEq, sgn_eq, V.ref.injEq, V.bl.injEq, exists_eq_left, exists_eq_left', exists_and_left, exists_eq_right, List.cons.injEq, and_true, true_and, ex_bl, ex_int, exists_const, Nat.zero_add, Int.toNat_natCast, Int.zero_add, and_assoc, reduceCtorEq, false_and, and_false, exists_false, or_false, false_or, eq_self, decide_true, decide_false, ite_true, ite_false, if_true, if_false, Bool.false_eq_true, Bool.not_true, Bool.not_false, ↓reduceIte])
def top (i : Nat) : Stmt := PySem.Challenge.pw_loopworks_k81_elimination_of_conditions.main.body.getD i (.Pass ⟨0, 0, 0, 0⟩)
abbrev s_add : Stmt := top 2
theorem sc_add : FnScope ["one", "other", "a", "b"] ["one", "other"] (defScope s_add) := ⟨rfl, rfl, rfl, by decide +kernel, rfl, by decide +kernel, by decide +kernel⟩
abbrev s_multiply : Stmt := top 3
theorem sc_multiply : FnScope ["factor", "expression", "number"] ["factor", "expression"] (defScope s_multiply) := ⟨rfl, rfl, rfl, by decide +kernel, rfl, by decide +kernel, by decide +kernel⟩
abbrev s_common_divisor : Stmt := top 5
theorem sc_common_divisor : FnScope ["first", "numbers", "found", "number"] ["first", "numbers"] (defScope s_common_divisor) := ⟨rfl, rfl, rfl, by decide +kernel, rfl, by decide +kernel, by decide +kernel⟩
abbrev s_divided : Stmt := top 6
theorem sc_divided : FnScope ["expression", "divisor", "number"] ["expression", "divisor"] (defScope s_divided) := ⟨rfl, rfl, rfl, by decide +kernel, rfl, by decide +kernel, by decide +kernel⟩
abbrev s_reduced : Stmt := top 9
theorem sc_reduced : FnScope ["condition", "divisor"] ["condition"] (defScope s_reduced) := ⟨rfl, rfl, rfl, by decide +kernel, rfl, by decide +kernel, by decide +kernel⟩
abbrev s_least_form : Stmt := top 10
theorem sc_least_form : FnScope ["conditions", "places", "found", "condition", "least", "place"] ["conditions"] (defScope s_least_form) := ⟨rfl, rfl, rfl, by decide +kernel, rfl, by decide +kernel, by decide +kernel⟩
abbrev s_always_holds : Stmt := top 11
theorem sc_always_holds : FnScope ["condition", "number"] ["condition"] (defScope s_always_holds) := ⟨rfl, rfl, rfl, by decide +kernel, rfl, by decide +kernel, by decide +kernel⟩
abbrev s_eliminate : Stmt := top 12
theorem sc_eliminate : FnScope ["conditions", "index", "others", "condition", "lowers", "uppers", "lower", "upper"] ["conditions", "index"] (defScope s_eliminate) := ⟨rfl, rfl, rfl, by decide +kernel, rfl, by decide +kernel, by decide +kernel⟩
abbrev s_law_cell : Stmt := top 14
theorem sc_law_cell : FnScope ["script", "k"] ["script", "k"] (defScope s_law_cell) := ⟨rfl, rfl, rfl, by decide +kernel, rfl, by decide +kernel, by decide +kernel⟩
abbrev s_law_draws : Stmt := top 15
theorem sc_law_draws : FnScope ["cell", "count", "number", "great", "found", "k", "mixed"] ["cell", "count"] (defScope s_law_draws) := ⟨rfl, rfl, rfl, by decide +kernel, rfl, by decide +kernel, by decide +kernel⟩
abbrev s_law_stream : Stmt := top 16
theorem sc_law_stream : FnScope ["script", "first", "count", "found", "k"] ["script", "first", "count"] (defScope s_law_stream) := ⟨rfl, rfl, rfl, by decide +kernel, rfl, by decide +kernel, by decide +kernel⟩
abbrev s_law_next : Stmt := top 17
theorem sc_law_next : FnScope ["stream", "many", "digits", "place", "value"] ["stream", "many"] (defScope s_law_next) := ⟨rfl, rfl, rfl, by decide +kernel, rfl, by decide +kernel, by decide +kernel⟩
abbrev s_law_expression : Stmt := top 18
theorem sc_law_expression : FnScope ["stream", "count", "spread", "constant", "numbers", "k"] ["stream", "count", "spread", "constant"] (defScope s_law_expression) := ⟨rfl, rfl, rfl, by decide +kernel, rfl, by decide +kernel, by decide +kernel⟩
abbrev s_law_value : Stmt := top 19
theorem sc_law_value : FnScope ["expression", "point", "total", "k"] ["expression", "point"] (defScope s_law_value) := ⟨rfl, rfl, rfl, by decide +kernel, rfl, by decide +kernel, by decide +kernel⟩
abbrev s_law_is_integer : Stmt := top 20
theorem sc_law_is_integer : FnScope ["actual"] ["actual"] (defScope s_law_is_integer) := ⟨rfl, rfl, rfl, by decide +kernel, rfl, by decide +kernel, by decide +kernel⟩
abbrev s_law_same : Stmt := top 21
theorem sc_law_same : FnScope ["actual", "expected", "k"] ["actual", "expected"] (defScope s_law_same) := ⟨rfl, rfl, rfl, by decide +kernel, rfl, by decide +kernel, by decide +kernel⟩
abbrev s_law_gcd : Stmt := top 22
theorem sc_law_gcd : FnScope ["numbers", "divisor", "number", "rest", "k"] ["numbers"] (defScope s_law_gcd) := ⟨rfl, rfl, rfl, by decide +kernel, rfl, by decide +kernel, by decide +kernel⟩
abbrev s_law_reduced : Stmt := top 23
theorem sc_law_reduced : FnScope ["condition", "divisor", "number"] ["condition"] (defScope s_law_reduced) := ⟨rfl, rfl, rfl, by decide +kernel, rfl, by decide +kernel, by decide +kernel⟩
abbrev s_law_least : Stmt := top 24
theorem sc_law_least : FnScope ["conditions", "found", "condition", "small", "places", "k", "x"] ["conditions"] (defScope s_law_least) := ⟨rfl, rfl, rfl, by decide +kernel, rfl, by decide +kernel, by decide +kernel⟩
abbrev s_law_combined : Stmt := top 25
theorem sc_law_combined : FnScope ["lower", "upper", "index", "k"] ["lower", "upper", "index"] (defScope s_law_combined) := ⟨rfl, rfl, rfl, by decide +kernel, rfl, by decide +kernel, by decide +kernel⟩
abbrev s_law : Stmt := top 26
theorem sc_law : FnScope ["script", "stream", "count", "index", "many", "listed", "k", "without", "condition", "lowers", "uppers", "expected", "lower", "upper", "passed", "actual", "point", "j", "inside"] ["script"] (defScope s_law) := ⟨rfl, rfl, rfl, by decide +kernel, rfl, by decide +kernel, by decide +kernel⟩
structure Ad where
  f_add : Addr
  f_multiply : Addr
  f_common_divisor : Addr
  f_divided : Addr
  f_reduced : Addr
  f_least_form : Addr
  f_always_holds : Addr
  f_eliminate : Addr
  f_law_cell : Addr
  f_law_draws : Addr
  f_law_stream : Addr
  f_law_next : Addr
  f_law_expression : Addr
  f_law_value : Addr
  f_law_is_integer : Addr
  f_law_same : Addr
  f_law_gcd : Addr
  f_law_reduced : Addr
  f_law_least : Addr
  f_law_combined : Addr
  f_law : Addr
  d_add : FuncData
  d_multiply : FuncData
  d_common_divisor : FuncData
  d_divided : FuncData
  d_reduced : FuncData
  d_least_form : FuncData
  d_always_holds : FuncData
  d_eliminate : FuncData
  d_law_cell : FuncData
  d_law_draws : FuncData
  d_law_stream : FuncData
  d_law_next : FuncData
  d_law_expression : FuncData
  d_law_value : FuncData
  d_law_is_integer : FuncData
  d_law_same : FuncData
  d_law_gcd : FuncData
  d_law_reduced : FuncData
  d_law_least : FuncData
  d_law_combined : FuncData
  d_law : FuncData
  t_MOST_ELIMINATED : Tok
structure Txt (K : PySem.W.Frag) (mg : Str → Option Value) (A : Ad) : Prop where
  b_tuple : mg "tuple" = none
  b_zip : mg "zip" = none
  b_len : mg "len" = none
  b_min : mg "min" = none
  b_all : mg "all" = none
  b_int : mg "int" = none
  b_range : mg "range" = none
  b_abs : mg "abs" = none
  b_isinstance : mg "isinstance" = none
  b_bool : mg "bool" = none
  b_list : mg "list" = none
  b_str : mg "str" = none
  u_gcd : mg "gcd" = some (.builtin "math.gcd")
  g_add : mg "add" = some (.ref A.f_add)
  F_add : Fun K "add" "add" s_add A.f_add A.d_add
  B_add : Binds K A.d_add ["one", "other"] []
  g_multiply : mg "multiply" = some (.ref A.f_multiply)
  F_multiply : Fun K "multiply" "multiply" s_multiply A.f_multiply A.d_multiply
  B_multiply : Binds K A.d_multiply ["factor", "expression"] []
  g_common_divisor : mg "common_divisor" = some (.ref A.f_common_divisor)
  F_common_divisor : Fun K "common_divisor" "common_divisor" s_common_divisor A.f_common_divisor A.d_common_divisor
  B_common_divisor : Binds K A.d_common_divisor ["first", "numbers"] []
  g_divided : mg "divided" = some (.ref A.f_divided)
  F_divided : Fun K "divided" "divided" s_divided A.f_divided A.d_divided
  B_divided : Binds K A.d_divided ["expression", "divisor"] []
  g_reduced : mg "reduced" = some (.ref A.f_reduced)
  F_reduced : Fun K "reduced" "reduced" s_reduced A.f_reduced A.d_reduced
  B_reduced : Binds K A.d_reduced ["condition"] []
  g_least_form : mg "least_form" = some (.ref A.f_least_form)
  F_least_form : Fun K "least_form" "least_form" s_least_form A.f_least_form A.d_least_form
  B_least_form : Binds K A.d_least_form ["conditions"] []
  g_always_holds : mg "always_holds" = some (.ref A.f_always_holds)
  F_always_holds : Fun K "always_holds" "always_holds" s_always_holds A.f_always_holds A.d_always_holds
  B_always_holds : Binds K A.d_always_holds ["condition"] []
  g_eliminate : mg "eliminate" = some (.ref A.f_eliminate)
  F_eliminate : Fun K "eliminate" "eliminate" s_eliminate A.f_eliminate A.d_eliminate
  B_eliminate : Binds K A.d_eliminate ["conditions", "index"] []
  g_law_cell : mg "_law_cell" = some (.ref A.f_law_cell)
  F_law_cell : Fun K "_law_cell" "_law_cell" s_law_cell A.f_law_cell A.d_law_cell
  B_law_cell : Binds K A.d_law_cell ["script", "k"] []
  g_law_draws : mg "_law_draws" = some (.ref A.f_law_draws)
  F_law_draws : Fun K "_law_draws" "_law_draws" s_law_draws A.f_law_draws A.d_law_draws
  B_law_draws : Binds K A.d_law_draws ["cell", "count"] []
  g_law_stream : mg "_law_stream" = some (.ref A.f_law_stream)
  F_law_stream : Fun K "_law_stream" "_law_stream" s_law_stream A.f_law_stream A.d_law_stream
  B_law_stream : Binds K A.d_law_stream ["script", "first", "count"] []
  g_law_next : mg "_law_next" = some (.ref A.f_law_next)
  F_law_next : Fun K "_law_next" "_law_next" s_law_next A.f_law_next A.d_law_next
  B_law_next : Binds K A.d_law_next ["stream", "many"] []
  g_law_expression : mg "_law_expression" = some (.ref A.f_law_expression)
  F_law_expression : Fun K "_law_expression" "_law_expression" s_law_expression A.f_law_expression A.d_law_expression
  B_law_expression : Binds K A.d_law_expression ["stream", "count", "spread", "constant"] []
  g_law_value : mg "_law_value" = some (.ref A.f_law_value)
  F_law_value : Fun K "_law_value" "_law_value" s_law_value A.f_law_value A.d_law_value
  B_law_value : Binds K A.d_law_value ["expression", "point"] []
  g_law_is_integer : mg "_law_is_integer" = some (.ref A.f_law_is_integer)
  F_law_is_integer : Fun K "_law_is_integer" "_law_is_integer" s_law_is_integer A.f_law_is_integer A.d_law_is_integer
  B_law_is_integer : Binds K A.d_law_is_integer ["actual"] []
  g_law_same : mg "_law_same" = some (.ref A.f_law_same)
  F_law_same : Fun K "_law_same" "_law_same" s_law_same A.f_law_same A.d_law_same
  B_law_same : Binds K A.d_law_same ["actual", "expected"] []
  g_law_gcd : mg "_law_gcd" = some (.ref A.f_law_gcd)
  F_law_gcd : Fun K "_law_gcd" "_law_gcd" s_law_gcd A.f_law_gcd A.d_law_gcd
  B_law_gcd : Binds K A.d_law_gcd ["numbers"] []
  g_law_reduced : mg "_law_reduced" = some (.ref A.f_law_reduced)
  F_law_reduced : Fun K "_law_reduced" "_law_reduced" s_law_reduced A.f_law_reduced A.d_law_reduced
  B_law_reduced : Binds K A.d_law_reduced ["condition"] []
  g_law_least : mg "_law_least" = some (.ref A.f_law_least)
  F_law_least : Fun K "_law_least" "_law_least" s_law_least A.f_law_least A.d_law_least
  B_law_least : Binds K A.d_law_least ["conditions"] []
  g_law_combined : mg "_law_combined" = some (.ref A.f_law_combined)
  F_law_combined : Fun K "_law_combined" "_law_combined" s_law_combined A.f_law_combined A.d_law_combined
  B_law_combined : Binds K A.d_law_combined ["lower", "upper", "index"] []
  g_law : mg "law" = some (.ref A.f_law)
  F_law : Fun K "law" "law" s_law A.f_law A.d_law
  B_law : Binds K A.d_law ["script"] []
  g_MOST_ELIMINATED : mg "MOST_ELIMINATED" = some (.int 64 A.t_MOST_ELIMINATED)
/-- the greatest common divisor of a number and more of them -/
def gl (g : Nat) : List Int → Nat
  | [] => g
  | x :: r => gl (Nat.gcd g x.natAbs) r
theorem gl_dvd : ∀ (l : List Int) (g : Nat), gl g l ∣ g ∧ ∀ x ∈ l, (gl g l : Int) ∣ x
  | [], g => ⟨Nat.dvd_refl g, fun _ h => by cases h⟩
  | y :: r, g => by
    obtain ⟨h1, h2⟩ := gl_dvd r (Nat.gcd g y.natAbs)
    refine ⟨Nat.dvd_trans h1 (Nat.gcd_dvd_left _ _), fun x hx => ?_⟩
    rcases List.mem_cons.mp hx with rfl | hx
    · exact Int.ofNat_dvd_left.mpr (Nat.dvd_trans h1 (Nat.gcd_dvd_right _ _))
    · exact h2 x hx
theorem gl_great : ∀ (l : List Int) (g k : Nat), k ∣ g → (∀ x ∈ l, (k : Int) ∣ x) → k ∣ gl g l
  | [], _, _, h, _ => h
  | y :: r, g, k, h, hx => gl_great r _ k (Nat.dvd_gcd h (Int.ofNat_dvd_left.mp (hx y (List.mem_cons_self ..)))) (fun x h' => hx x (List.mem_cons_of_mem _ h'))
theorem gl_zero {l : List Int} {g : Nat} (h : gl g l = 0) : g = 0 ∧ ∀ x ∈ l, x = 0 := by
  obtain ⟨h1, h2⟩ := gl_dvd l g
  rw [h] at h1 h2
  exact ⟨Nat.eq_zero_of_zero_dvd h1, fun x hx => Int.zero_dvd.mp (h2 x hx)⟩
theorem gl_le {l : List Int} {g b : Nat} (hb : ∀ x ∈ l, x.natAbs ≤ b) (hg : g ≤ b) : gl g l ≤ b := by
  by_cases h0 : g = 0
  · subst h0
    clear hg
    induction l with
    | nil => exact Nat.zero_le _
    | cons y r ih =>
      rw [gl, Nat.gcd_zero_left]
      by_cases hy : y.natAbs = 0
      · rw [hy]; exact ih fun x hx => hb x (List.mem_cons_of_mem _ hx)
      · exact Nat.le_trans (Nat.le_of_dvd (by omega) (gl_dvd r _).1) (hb y (List.mem_cons_self ..))
  · exact Nat.le_trans (Nat.le_of_dvd (by omega) (gl_dvd l g).1) hg
/-- the greatest common divisor of divided numbers is 1 -/
theorem gl_div {l : List Int} {g : Nat} (hp : 0 < gl g l) : gl (g / gl g l) (l.map (· / (gl g l : Int))) = 1 := by
  obtain ⟨h1, h2⟩ := gl_dvd l g
  generalize hG : gl g l = G at *
  obtain ⟨i1, i2⟩ := gl_dvd (l.map (· / (G : Int))) (g / G)
  generalize hK : gl (g / G) (l.map (· / (G : Int))) = k at *
  have d1 : G * k ∣ g := by
    obtain ⟨a, e⟩ := i1
    refine ⟨a, ?_⟩
    rw [Nat.mul_assoc, ← e, Nat.mul_div_cancel' h1]
  have d2 : ∀ x ∈ l, ((G * k : Nat) : Int) ∣ x := fun x hx => by
    obtain ⟨a, e⟩ := i2 _ (List.mem_map.mpr ⟨x, hx, rfl⟩)
    refine ⟨a, ?_⟩
    rw [Int.natCast_mul, Int.mul_assoc, ← e, Int.mul_ediv_cancel' (h2 x hx)]
  have d3 := gl_great l g (G * k) d1 d2
  rw [hG] at d3
  have d4 : G * k ≤ G * 1 := by rw [Nat.mul_one]; exact Nat.le_of_dvd hp d3
  have d5 := Nat.le_of_mul_le_mul_left d4 hp
  have d6 : k ≠ 0 := fun z => by
    rw [z, Nat.mul_zero] at d3
    have := Nat.eq_zero_of_zero_dvd d3
    omega
  omega
theorem gl_snoc (x : Int) : ∀ (l : List Int) (g : Nat), gl g (l ++ [x]) = Nat.gcd (gl g l) x.natAbs
  | [], _ => rfl
  | y :: r, g => by rw [List.cons_append, gl, gl, gl_snoc x r]
theorem map_div1 (l : List Int) : l.map (· / ((1 : Nat) : Int)) = l := by
  induction l with
  | nil => rfl
  | cons x r ih => rw [List.map_cons, ih, show x / ((1 : Nat) : Int) = x from Int.ediv_one x]
theorem lexLt_last (c : List Int) (x y : Int) : HT.lexLt (c ++ [x]) (c ++ [y]) = decide (x < y) := by
  induction c with
  | nil =>
    rw [List.nil_append, List.nil_append, HT.lexLt_cons]
    by_cases h : x = y
    · rw [if_pos h, HT.lexLt_nil_nil]
      exact (decide_eq_false (by omega)).symm
    · rw [if_neg h]
  | cons a c ih => rw [List.cons_append, List.cons_append, HT.lexLt_cons, if_pos rfl, ih]
/-! ### conditions: coefficients and a constant -/
abbrev Ex := List Int × Int
def Ex.e (x : Ex) : List Int := x.1 ++ [x.2]
def redE (x : Ex) : Ex := if gl 0 x.1 = 0 then x else (x.1.map (· / (gl 0 x.1 : Int)), x.2 / (gl 0 x.1 : Int))
def insE : List Ex → Ex → List Ex
  | [], u => [u]
  | f :: r, u => if f.1 = u.1 then (if u.2 < f.2 then u else f) :: r else f :: insE r u
def leastIn : List Ex → List Ex → List Ex
  | found, [] => found
  | found, t :: r => leastIn (insE found (redE t)) r
def always (x : Ex) : Bool := decide (0 ≤ x.2) && x.1.all (fun c => decide (c = 0))
def leastE (l : List Ex) : List Ex := (leastIn [] l).filter fun x => !always x
def fndE (u : List Int) : List Ex → Option Nat
  | [] => none
  | f :: r => if f.1 = u then some 0 else (fndE u r).map (· + 1)
theorem fndE_some (u : List Int) : ∀ (l : List Ex) (j : Nat), fndE u l = some j → ∃ f, l[j]? = some f ∧ f.1 = u
  | [], _, h => by cases h
  | g :: r, j, h => by
    rw [fndE] at h
    by_cases hs : g.1 = u
    · rw [if_pos hs] at h
      cases h
      exact ⟨g, rfl, hs⟩
    · rw [if_neg hs] at h
      cases hq : fndE u r with
      | none => rw [hq] at h; cases h
      | some i =>
        rw [hq] at h
        cases h
        obtain ⟨f, hf, hk⟩ := fndE_some u r i hq
        exact ⟨f, by simpa using hf, hk⟩
theorem insE_none (u : Ex) : ∀ l : List Ex, fndE u.1 l = none → insE l u = l ++ [u]
  | [], _ => rfl
  | g :: r, h => by
    rw [fndE] at h
    by_cases hs : g.1 = u.1
    · rw [if_pos hs] at h; cases h
    · rw [if_neg hs] at h
      rw [insE, if_neg hs]
      cases hq : fndE u.1 r with
      | none => rw [insE_none u r hq]; rfl
      | some i => rw [hq] at h; cases h
theorem insE_some (u : Ex) : ∀ (l : List Ex) (j : Nat) (f : Ex), fndE u.1 l = some j → l[j]? = some f → insE l u = l.set j (if u.2 < f.2 then u else f)
  | [], _, _, h, _ => by cases h
  | g :: r, j, f, h, hf => by
    rw [fndE] at h
    by_cases hs : g.1 = u.1
    · rw [if_pos hs] at h
      cases h
      cases hf
      rw [insE, if_pos hs]
      rfl
    · rw [if_neg hs] at h
      cases hq : fndE u.1 r with
      | none => rw [hq] at h; cases h
      | some i =>
        rw [hq] at h
        cases h
        rw [insE, if_neg hs, insE_some u r i f hq (by simpa using hf)]
        rfl
theorem insE_mem {found : List Ex} {u x : Ex} : x ∈ insE found u → x ∈ found ∨ x = u := by
  induction found with
  | nil => intro h; exact .inr (List.mem_singleton.mp h)
  | cons f r ih =>
    rw [insE]
    split
    · intro h
      rcases List.mem_cons.mp h with h | h
      · split at h
        · exact .inr h
        · exact .inl (h ▸ List.mem_cons_self)
      · exact .inl (List.mem_cons_of_mem _ h)
    · intro h
      rcases List.mem_cons.mp h with h | h
      · exact .inl (h ▸ List.mem_cons_self)
      · rcases ih h with h | h
        · exact .inl (List.mem_cons_of_mem _ h)
        · exact .inr h
theorem insE_len (found : List Ex) (u : Ex) : (insE found u).length ≤ found.length + 1 := by
  induction found with
  | nil => exact Nat.le_refl _
  | cons f r ih =>
    rw [insE]
    split
    · simp
    · simp only [List.length_cons]; omega
theorem leastIn_mem (P : Ex → Prop) : ∀ (rows found : List Ex), (∀ t ∈ rows, P (redE t)) → (∀ t ∈ found, P t) → ∀ t ∈ leastIn found rows, P t
  | [], _, _, h => h
  | t :: r, found, h, hf => by
    rw [leastIn]
    refine leastIn_mem P r _ (fun x hx => h x (List.mem_cons_of_mem _ hx)) fun x hx => ?_
    rcases insE_mem hx with hx | hx
    · exact hf x hx
    · rw [hx]; exact h t List.mem_cons_self
theorem leastIn_len : ∀ (rows found : List Ex), (leastIn found rows).length ≤ found.length + rows.length
  | [], _ => by rw [leastIn]; exact Nat.le_refl _
  | t :: r, found => by
    rw [leastIn]
    have h1 := leastIn_len r (insE found (redE t))
    have h2 := insE_len found (redE t)
    simp only [List.length_cons]
    omega
/-- a condition of n coefficients, none of more than b bits -/
structure ES (b n : Nat) (x : Ex) : Prop where
  len : x.1.length = n
  cs : ∀ c ∈ x.1, Sz b c
  d : Sz b x.2
theorem ES.mono {a b n : Nat} {x : Ex} (h : ES a n x) (l : a ≤ b) : ES b n x := ⟨h.len, fun c hc => (h.cs c hc).mono l, h.d.mono l⟩
theorem ES.e {b n : Nat} {x : Ex} (h : ES b n x) : ∀ c ∈ x.e, Sz b c := fun c hc => by
  rcases List.mem_append.mp hc with hc | hc
  · exact h.cs c hc
  · rw [List.mem_singleton.mp hc]; exact h.d
theorem ES.elen {b n : Nat} {x : Ex} (h : ES b n x) : x.e.length = n + 1 := by rw [Ex.e, List.length_append, List.length_singleton, h.len]
theorem sz_div' {b : Nat} {x g : Int} (h : Sz b x) : Sz b (x / g) := by
  unfold Sz at *
  exact Nat.lt_of_le_of_lt (Int.natAbs_ediv_le_natAbs x g) h
theorem ES.red {b n : Nat} {x : Ex} (h : ES b n x) : ES b n (redE x) := by
  unfold redE
  split
  · exact h
  · exact ⟨by rw [List.length_map]; exact h.len, fun c hc => by
      obtain ⟨y, hy, rfl⟩ := List.mem_map.mp hc
      exact sz_div' (h.cs y hy), sz_div' h.d⟩
/-! ### the steps of Euclid -/
def eu1 (s : Nat × Nat) : Nat × Nat := if 0 < s.2 then (s.2, s.1 % s.2) else s
def eu (s : Nat × Nat) : Nat → Nat × Nat
  | 0 => s
  | i + 1 => eu1 (eu s i)
theorem eu1_gcd (s : Nat × Nat) : Nat.gcd (eu1 s).1 (eu1 s).2 = Nat.gcd s.1 s.2 := by
  unfold eu1
  split
  · show Nat.gcd s.2 (s.1 % s.2) = _
    rw [Nat.gcd_comm s.1, Nat.gcd_rec s.2 s.1, Nat.gcd_comm]
  · rfl
theorem eu_gcd (s : Nat × Nat) : ∀ i, Nat.gcd (eu s i).1 (eu s i).2 = Nat.gcd s.1 s.2
  | 0 => rfl
  | i + 1 => by rw [eu, eu1_gcd, eu_gcd s i]
theorem mod_half {n m : Nat} (h0 : 0 < m) (h : m < n) : 2 * (n % m) ≤ n := by
  have h1 := Nat.mod_lt n h0
  have h2 := Nat.mod_add_div n m
  have h3 : 1 ≤ n / m := Nat.div_pos (by omega) h0
  have h4 : m * 1 ≤ m * (n / m) := Nat.mul_le_mul_left m h3
  omega
theorem eu_half (s : Nat × Nat) (i : Nat) : 2 * (eu s (i + 2)).2 ≤ (eu s i).2 := by
  rw [eu, eu]
  generalize eu s i = t
  unfold eu1
  by_cases h : 0 < t.2
  · rw [if_pos h]
    dsimp only
    have h1 := Nat.mod_lt t.1 h
    by_cases h2 : 0 < t.1 % t.2
    · rw [if_pos h2]
      exact mod_half h2 h1
    · rw [if_neg h2]
      dsimp only
      omega
  · rw [if_neg h, if_neg h]
    omega
theorem eu_pow (s : Nat × Nat) : ∀ k, (eu s (2 * k)).2 * 2 ^ k ≤ s.2
  | 0 => by rw [Nat.mul_zero, Nat.pow_zero, Nat.mul_one]; exact Nat.le_refl _
  | k + 1 => by
    have h1 := eu_pow s k
    have h2 := eu_half s (2 * k)
    rw [show 2 * (k + 1) = 2 * k + 2 by omega, Nat.pow_succ]
    calc (eu s (2 * k + 2)).2 * (2 ^ k * 2) = (2 * (eu s (2 * k + 2)).2) * 2 ^ k := by rw [Nat.mul_comm (2 ^ k) 2, ← Nat.mul_assoc, Nat.mul_comm _ 2]
      _ ≤ (eu s (2 * k)).2 * 2 ^ k := Nat.mul_le_mul_right _ h2
      _ ≤ s.2 := h1
theorem eu_end (s : Nat × Nat) (h : s.2 < 2 ^ 200) : eu s 400 = (Nat.gcd s.1 s.2, 0) := by
  have h1 := eu_pow s 200
  have h2 : (eu s 400).2 = 0 := by
    rcases Nat.eq_zero_or_pos (eu s 400).2 with h0 | h0
    · exact h0
    · have : 1 * 2 ^ 200 ≤ (eu s (2 * 200)).2 * 2 ^ 200 := Nat.mul_le_mul_right _ h0
      rw [Nat.one_mul] at this
      exact absurd (Nat.lt_of_lt_of_le h (Nat.le_trans this h1)) (Nat.lt_irrefl _)
  have h3 := eu_gcd s 400
  rw [h2, Nat.gcd_zero_right] at h3
  exact Prod.ext h3 h2
/-! ### conditions in memory -/
def ExT (K : PySem.W.Frag) (H : Hp) (a : Addr) (x : Ex) : Prop := SqT K H a (x.e.map V.int)
theorem ex_stay {K : PySem.W.Frag} : Stay (ExT K) := ⟨fun h s => sameT s h, fun e h => sqT_upd e h⟩
theorem ex_list {x : Ex} : x.e.map V.int = x.1.map V.int ++ [V.int x.2] := by rw [Ex.e, List.map_append]; rfl
theorem redE_e (x : Ex) : (redE x).e = if gl 0 x.1 = 0 then x.e else x.e.map (· / (gl 0 x.1 : Int)) := by
  unfold redE
  split
  · rfl
  · rw [Ex.e, Ex.e, List.map_append]
    rfl
def ckey (c : List Int) : NestedKey := .tup (c.map NestedKey.num)
theorem ckey_inj {c c' : List Int} (h : ckey c = ckey c') : c = c' := by
  injection h with h
  exact nums_inj h
theorem ckey_depth (c : List Int) : (ckey c).depth ≤ 8 := by
  rw [ckey, NestedKey.depth, depth_nums]
  decide
theorem nk_ints {K : PySem.W.Frag} {H : Hp} : ∀ e : List Int, NkAll K H (e.map V.int) (e.map NestedKey.num)
  | [] => .nil
  | x :: r => .cons (.int x) (nk_ints r)
/-- the dict of places beside the conditions found -/
def AlE : Nat → List NE → List Ex → Prop
  | _, [], [] => True
  | k, x :: xs, f :: fs => x.1 = ckey f.1 ∧ x.2.2 = V.int (k : Int) ∧ AlE (k + 1) xs fs
  | _, _, _ => False
theorem alE_len : ∀ (xs : List NE) (fs : List Ex) (k : Nat), AlE k xs fs → xs.length = fs.length
  | [], [], _, _ => rfl
  | x :: xs, f :: fs, k, h => by rw [List.length_cons, List.length_cons, alE_len xs fs (k + 1) h.2.2]
  | [], _ :: _, _, h => h.elim
  | _ :: _, [], _, h => h.elim
theorem alE_look (u : List Int) : ∀ (xs : List NE) (fs : List Ex) (k : Nat), AlE k xs fs → lookN xs (ckey u) = (fndE u fs).map fun j => V.int ((k + j : Nat) : Int)
  | [], [], _, _ => rfl
  | x :: xs, f :: fs, k, h => by
    obtain ⟨h1, h2, h3⟩ := h
    have ih := alE_look u xs fs (k + 1) h3
    unfold lookN at ih ⊢
    rw [List.find?_cons, fndE, h1]
    by_cases e : f.1 = u
    · rw [if_pos e, decide_eq_true (by rw [e])]
      show some x.2.2 = _
      rw [h2]
      rfl
    · rw [if_neg e, decide_eq_false (fun z => e (ckey_inj z)), ih]
      cases fndE u fs with
      | none => rfl
      | some j =>
        show some _ = some _
        show some (V.int ((k + 1 + j : Nat) : Int)) = some (V.int ((k + (j + 1) : Nat) : Int))
        rw [show k + 1 + j = k + (j + 1) by omega]
  | [], _ :: _, _, h => h.elim
  | _ :: _, [], _, h => h.elim
theorem alE_snoc (b : Addr) (u : Ex) : ∀ (xs : List NE) (fs : List Ex) (k : Nat), AlE k xs fs → AlE k (xs ++ [(ckey u.1, b, V.int ((k + fs.length : Nat) : Int))]) (fs ++ [u])
  | [], [], k, _ => ⟨rfl, rfl, trivial⟩
  | x :: xs, f :: fs, k, h => ⟨h.1, h.2.1, by
      have := alE_snoc b u xs fs (k + 1) h.2.2
      rw [List.length_cons, show k + (fs.length + 1) = k + 1 + fs.length by omega]
      exact this⟩
  | [], _ :: _, _, h => h.elim
  | _ :: _, [], _, h => h.elim
theorem alE_set (c : Ex) : ∀ (xs : List NE) (fs : List Ex) (k j : Nat) (f : Ex), AlE k xs fs → fs[j]? = some f → c.1 = f.1 → AlE k xs (fs.set j c)
  | x :: xs, f :: fs, k, 0, g, h, hf, e => by
    cases hf
    exact ⟨by rw [e]; exact h.1, h.2.1, h.2.2⟩
  | x :: xs, f :: fs, k, j + 1, g, h, hf, e => ⟨h.1, h.2.1, alE_set c xs fs (k + 1) j g h.2.2 (by simpa using hf) e⟩
  | [], [], _, _, _, _, hf, _ => by simp at hf
  | [], _ :: _, _, _, _, h, _, _ => h.elim
  | _ :: _, [], _, _, _, h, _, _ => h.elim
/-! ### all but one object stand -/
def SBut (x : Addr) (H H' : Hp) : Prop := ∀ b o, b ≠ x → H b = some o → H' b = some o
theorem SBut.same {x : Addr} {H0 H H' : Hp} (s : SBut x H H') (h : Same H0 H) (n : H0 x = none) : Same H0 H' := fun b o e => s b o (ne_of_none e n) (h b o e)
theorem Same.but {x : Addr} {H H' : Hp} (s : Same H H') : SBut x H H' := fun b o _ e => s b o e
theorem SBut.trans {x : Addr} {H H1 H2 : Hp} (a : SBut x H H1) (b : SBut x H1 H2) : SBut x H H2 := fun c o n e => b c o n (a c o n e)
theorem SBut.upd {x : Addr} {H : Hp} {o : HO} : SBut x H (L2.upd H x o) := fun b u n e => by rw [upd_ne n]; exact e
def NoTup (o : HO) : Prop := (∀ xs, o ≠ .tup xs) ∧ ∀ ob xs, o ≠ .frz ob (.tup xs)
theorem sqT_but {K : PySem.W.Frag} {x a : Addr} {H H' : Hp} {o : HO} {xs : List V} (s : SBut x H H') (hx : H x = some o) (no : NoTup o) (h : SqT K H a xs) : SqT K H' a xs := by
  rcases h with (h | ⟨ob, h⟩) | h
  · exact .inl (.inl (s _ _ (ne_of h hx (fun z => no.1 _ z.symm)) h))
  · exact .inl (.inr ⟨ob, s _ _ (ne_of h hx (fun z => no.2 _ _ z.symm)) h⟩)
  · exact .inr h
theorem noTup_ins {C dx : Addr} {fs : List (Str × V)} : NoTup (.ins C dx fs) := ⟨fun _ z => (by cases z), fun _ _ z => (by cases z)⟩
theorem noTup_lst {xs : List V} : NoTup (.lst xs) := ⟨fun _ z => (by cases z), fun _ _ z => (by cases z)⟩
theorem noTup_ext {φ : Heap → Prop} : NoTup (.ext φ) := ⟨fun _ z => (by cases z), fun _ _ z => (by cases z)⟩
theorem Nk.but {K : PySem.W.Frag} {x : Addr} {H H' : Hp} {o : HO} (s : SBut x H H') (hx : H x = some o) (no : NoTup o) {v : V} {k : NestedKey} (h : Nk K H v k) : Nk K H' v k := by
  have : ∀ (k : NestedKey), (∀ v, Nk K H v k → Nk K H' v k) := by
    intro k
    refine NestedKey.rec (motive_1 := fun k => ∀ v, Nk K H v k → Nk K H' v k) (motive_2 := fun ks => ∀ vs, NkAll K H vs ks → NkAll K H' vs ks) ?_ ?_ ?_ ?_ ?_ ?_ k
    · intro v h; cases h; exact .non
    · intro i v h; cases h; exact .int i
    · intro z v h; cases h; exact .str z
    · intro ks ih v h
      cases h with
      | tup hT hA => exact .tup (sqT_but s hx no hT) (ih _ hA)
    · intro vs h; cases h; exact .nil
    · intro k ks i1 i2 vs h
      cases h with
      | cons h1 h2 => exact .cons (i1 _ h1) (i2 _ h2)
  exact this k v h
def sp_common_divisor (K : PySem.W.Frag) : Sp := fun vs H Q _ => ∃ (g : Int) (a : Addr) (c : List Int), vs = [.int g, .ref a] ∧ 0 ≤ g ∧ SqT K H a (c.map V.int) ∧ Q (.int ((gl g.toNat c : Nat) : Int)) H
def sp_divided (K : PySem.W.Frag) : Sp := fun vs H Q _ => ∃ (a : Addr) (e : List Int) (g : Int), vs = [.ref a, .int g] ∧ SqT K H a (e.map V.int) ∧ 0 < g ∧ Sz 8500 g ∧ e.length ≤ 100 ∧ ∀ H' t, Same H H' → SqT K H' t ((e.map (· / g)).map V.int) → Q (.ref t) H'
def sp_reduced (K : PySem.W.Frag) : Sp := fun vs H Q _ => ∃ (a : Addr) (x : Ex) (n : Nat), vs = [.ref a] ∧ ExT K H a x ∧ ES 100 n x ∧ n ≤ 90 ∧ ∀ H' t, Same H H' → ExT K H' t (redE x) → Q (.ref t) H'
def sp_always_holds (K : PySem.W.Frag) : Sp := fun vs H Q _ => ∃ (a : Addr) (x : Ex), vs = [.ref a] ∧ ExT K H a x ∧ x.1.length ≤ 90 ∧ ∀ H', Same H H' → Q (.bl (always x)) H'
def sp_least_form (K : PySem.W.Frag) : Sp := fun vs H Q _ => ∃ (l : Addr) (rs : List (Addr × Ex)) (n : Nat), vs = [.ref l] ∧ SqL K H l (rsv rs) ∧ RsAll (ExT K) H rs ∧ (∀ r ∈ rs, ES 100 n r.2) ∧ n ≤ 90 ∧ rs.length ≤ 800 ∧
  ∀ H' p ss, Same H H' → H p = none → H' p = some (.lst (rsv ss)) → RsAll (ExT K) H' ss → ss.map (·.2) = leastE (rs.map (·.2)) → Q (.ref p) H'
theorem sz_gl {l : List Int} {g : Nat} {b : Nat} (hl : ∀ x ∈ l, Sz b x) (hg : Sz b (g : Int)) : Sz b ((gl g l : Nat) : Int) := by
  unfold Sz at *
  rw [Int.natAbs_natCast] at *
  have hp : 0 < 2 ^ b := Nat.pow_pos (by decide)
  have := gl_le (l := l) (g := g) (b := 2 ^ b - 1) (fun x hx => by have := hl x hx; omega) (by omega)
  omega
theorem cdivw {i g : Int} {b : Nat} (hg : 0 < g) (h : Sz b g) (h0 : 0 < b) (hb : b ≤ 9000) : CDivW i g := wide_div hg h h0 hb
def ifB : Stmt → List Stmt
  | .If _ b _ _ => b
  | _ => []
def elB : Stmt → List Stmt
  | .If _ _ b _ => b
  | _ => []
def stAt (l : List Stmt) (i : Nat) : Stmt := l.getD i (.Pass ⟨0, 0, 0, 0⟩)
section
variable {P : Program} {w : World} {K : PySem.W.Frag} {mg : Str → Option Value} {base : Heap} {A : Ad}
theorem ok_common_divisor (T : Txt K mg A) : FnOk P w K mg base CX0 1 A.f_common_divisor A.d_common_divisor ["first", "numbers"] (sp_common_divisor K) := by
  refine T.F_common_divisor.ok sc_common_divisor (fun vs H Q E h => ?_) (fun cdv A' outer s H vs Q E hr h => ?_)
  · obtain ⟨g, a, c, rfl, _⟩ := h
    rfl
  · obtain ⟨g, a, c, rfl, hg, hC, q⟩ := h
    refine ⟨_, (pss_cons (ps_set (i := 2) sc_common_divisor.nd rfl (Or.inl rfl) (pv 0)) 
    (pss_cons (ps_for PassesOwn.never rfl (pi_tup (pv 1)) (pg_name (i := 3) sc_common_divisor.nd rfl (Or.inl rfl)) 
      (pss_one (ps_set (i := 2) sc_common_divisor.nd rfl (Or.inl rfl) (pe_callBfun cr_gcd (by rfl) T.u_gcd (pa_cons (pv 2) (pa_cons (pv 3) pa_nil)))))) 
    (pss_one (ps_ret (pv 2))))), ?_⟩
    walk_at "wp"
    refine ⟨⟨_, hC⟩, ?_⟩
    refine loop_it (walk_tup (xs := c.map V.int)) (fun i σ H' => H' = H ∧ ∃ v, σ = [some (V.int g), some (V.ref a), some (V.int ((gl g.toNat (c.take i) : Nat) : Int)), v]) ⟨rfl, _, by rw [List.take_zero, gl, Int.toNat_of_nonneg hg]⟩ (fun _ _ _ _ p => by rw [p.1]; exact hC) ?_ ?_
    · rintro i x σ H1 H2 hi ⟨rfl, v, rfl⟩ y
      obtain ⟨rfl, e⟩ := yat_at y
      rw [List.length_map] at hi
      rw [List.getElem?_map, List.getElem?_eq_getElem hi] at e
      cases e
      walk_at "wp"
      refine ⟨?_, _, rfl⟩
      rw [List.take_succ_eq_append_getElem hi, gl_snoc, Int.natAbs_natCast]
    · rintro σ H1 ⟨rfl, v, rfl⟩
      rw [List.length_map, List.take_length]
      walk_at "wp"
      exact q
theorem ok_divided (T : Txt K mg A) : FnOk P w K mg base CX0 1 A.f_divided A.d_divided ["expression", "divisor"] (sp_divided K) := by
  refine T.F_divided.ok sc_divided (fun vs H Q E h => ?_) (fun cdv A' outer s H vs Q E hr h => ?_)
  · obtain ⟨a, e, g, rfl, _⟩ := h
    rfl
  · obtain ⟨a, e, g, rfl, hE, hg, hz, hn, q⟩ := h
    refine ⟨_, (pss_one (ps_ret (pe_callTy call_tuple_of (by rfl) T.b_tuple (by decide +kernel) (pa_cons (pe_lc (own := [("number", 2)]) (by rfl) sc_divided.nd (pi_tup (pv 0)) (blkOk_by (own := [("number", 2)]) (N := ["expression", "divisor", "number"]) (sc := defScope s_divided) (by decide +kernel)) (fun _ _ _ _ _ => (pg_name (i := 2) sc_divided.nd rfl (Or.inl rfl) (Or.inr rfl))) (fun _ _ _ _ _ => pts_nil) (fun _ _ _ _ _ => (pe_op op_fdivW (pv 2) (pv 1)))) pa_nil)))), ?_⟩
    walk_at "wp"
    refine ⟨⟨_, hE⟩, fun D hD => lc_tupI (· / g) hE hD (by omega) (fun x H' R hx s1 k => ?_) (fun H' s' e' => ?_)⟩
    · walk_at "wp"
      exact ⟨cdivw hg hz (by decide) (by decide), k _ (Same.refl _)⟩
    · exact ⟨_, .inl ⟨SqL.of e', fun t nt => q _ _ (same_upd2 s' (s'.free nt)) (SqT.of upd_same)⟩⟩
theorem ok_reduced (T : Txt K mg A) : FnOk P w K mg base CX0 2 A.f_reduced A.d_reduced ["condition"] (sp_reduced K) := by
  have G_common_divisor := ok_common_divisor (P := P) (w := w) (base := base) T
  have G_divided := ok_divided (P := P) (w := w) (base := base) T
  refine T.F_reduced.ok sc_reduced (fun vs H Q E h => ?_) (fun cdv A' outer s H vs Q E hr h => ?_)
  · obtain ⟨a, x, n, rfl, _⟩ := h
    rfl
  · obtain ⟨a, x, n, rfl, hE, hs, hn, q⟩ := h
    refine ⟨_, (pss_cons (ps_set (i := 1) sc_reduced.nd rfl (Or.inl rfl) (pe_call G_common_divisor hr (by rfl) T.g_common_divisor T.F_common_divisor.kp T.B_common_divisor .nil pass0 (pa_cons pe_int (pa_cons (pe_slice sl_tupA (pv 0) po_none (po_some (pe_un un_neg pe_int))) pa_nil)))) 
    (pss_one (ps_ret (pe_ifExp (pt_cmpR op_eq (pv 1) pe_int (nomark _)) (pv 0) (pe_call G_divided hr (by rfl) T.g_divided T.F_divided.kp T.B_divided .nil pass0 (pa_cons (pv 0) (pa_cons (pv 1) pa_nil))))))), ?_⟩
    walk_at "wp"
    have hE' := hE
    unfold ExT at hE'
    rw [ex_list] at hE'
    refine sl_init hE' fun H1 p1 s1 h1 => ⟨0, p1, x.1, rfl, by decide, h1, ?_⟩
    have hz : Sz 100 ((gl 0 x.1 : Nat) : Int) := sz_gl hs.cs (Sz.zero _)
    have e0 := redE_e x
    rw [show (0 : Int).toNat = 0 from rfl]
    refine ⟨rfl, ?_⟩
    walk_at "wp"
    by_cases hg : gl 0 x.1 = 0
    · rw [if_pos (decide_eq_true (by omega))]
      rw [if_pos hg] at e0
      refine q _ a s1 ?_
      unfold ExT
      rw [e0]
      exact sameT s1 hE
    · rw [if_neg (by rw [decide_eq_true_eq]; omega)]
      rw [if_neg hg] at e0
      refine ⟨a, x.e, _, rfl, sameT s1 hE, by omega, hz.mono (by decide), by rw [hs.elen]; omega, fun H2 t s2 h2 => q _ t (s1.trans s2) ?_⟩
      unfold ExT
      rw [e0]
      exact h2
theorem ok_always_holds (T : Txt K mg A) : FnOk P w K mg base CX0 1 A.f_always_holds A.d_always_holds ["condition"] (sp_always_holds K) := by
  refine T.F_always_holds.ok sc_always_holds (fun vs H Q E h => ?_) (fun cdv A' outer s H vs Q E hr h => ?_)
  · obtain ⟨a, x, rfl, _⟩ := h
    rfl
  · obtain ⟨a, x, rfl, hE, hl, q⟩ := h
    refine ⟨_, (pss_one (ps_ret (pe_and (pe_cmpR op_ge (pe_ix ix_tup (pv 0) (pe_un un_neg pe_int) (fun _ _ => rfl)) pe_int (nomark _)) (pe_one (pe_callB (cr_all rfl) (by rfl) T.b_all (by decide +kernel) (pa_cons (pe_lc (own := [("number", 1)]) (by rfl) sc_always_holds.nd (pi_tup (pe_slice sl_tupA (pv 0) po_none (po_some (pe_un un_neg pe_int)))) (blkOk_by (own := [("number", 1)]) (N := ["condition", "number"]) (sc := defScope s_always_holds) (by decide +kernel)) (fun _ _ _ _ _ => (pg_name (i := 1) sc_always_holds.nd rfl (Or.inl rfl) (Or.inr rfl))) (fun _ _ _ _ _ => pts_nil) (fun _ _ _ _ _ => (pe_cmpR op_eq (pv 1) pe_int (nomark _)))) pa_nil)))))), ?_⟩
    walk_at "wp"
    have hE' := hE
    unfold ExT at hE'
    rw [ex_list] at hE'
    refine ⟨_, hE, _, by rw [ex_list]; exact atI_last _ _, _, rfl, ?_⟩
    unfold always at q
    by_cases hd : 0 ≤ x.2
    · rw [if_pos (decide_eq_true hd)]
      rw [decide_eq_true hd, Bool.true_and] at q
      refine sl_init hE' fun H1 p1 s1 h1 => ⟨p1, rfl, ⟨_, h1⟩, fun D hD => ?_⟩
      refine lc_tupV (fun c => V.bl (decide (c = 0))) h1 hD (by omega) (fun c H' R hc s2 k => ?_) (fun H' s2 e2 => ?_)
      · walk_at "wp"
        exact k _ (Same.refl _)
      · refine ⟨D, x.1.map fun c => decide (c = 0), rfl, SqL.of (by rw [List.map_map]; exact e2), ?_⟩
        rw [List.all_map]
        exact q _ (s1.trans s2)
    · rw [if_neg (by rw [decide_eq_true_eq]; exact hd)]
      rw [decide_eq_false hd, Bool.false_and] at q
      exact q _ (Same.refl _)
theorem ok_least_form (T : Txt K mg A) : FnOk P w K mg base CX0 3 A.f_least_form A.d_least_form ["conditions"] (sp_least_form K) := by
  have G_reduced := ok_reduced (P := P) (w := w) (base := base) T
  have G_always_holds := ok_always_holds (P := P) (w := w) (base := base) T
  refine T.F_least_form.ok sc_least_form (fun vs H Q E h => ?_) (fun cdv A' outer s H vs Q E hr h => ?_)
  · obtain ⟨l, rs, n, rfl, _⟩ := h
    rfl
  · obtain ⟨l, rs, n, rfl, hL, hA, hS, hn, hl, q⟩ := h
    refine ⟨_, (pss_cons (ps_set (i := 1) sc_least_form.nd rfl (Or.inl rfl) pe_dnewN) 
    (pss_cons (ps_set (i := 2) sc_least_form.nd rfl (Or.inl rfl) (pe_lst pa_nil)) 
    (pss_cons (ps_for PassesOwn.never rfl (pi_list (pv 0)) (pg_name (i := 3) sc_least_form.nd rfl (Or.inl rfl)) 
      (pss_cons (ps_set (i := 4) sc_least_form.nd rfl (Or.inl rfl) (pe_call G_reduced hr (by rfl) T.g_reduced T.F_reduced.kp T.B_reduced .nil pass0 (pa_cons (pv 3) pa_nil))) 
      (pss_cons (ps_set (i := 5) sc_least_form.nd rfl (Or.inl rfl) (pe_nset (pv 1) (pe_slice sl_tupA (pv 4) po_none (po_some (pe_un un_neg pe_int))) (pe_callB call_len_seq (by rfl) T.b_len (by decide +kernel) (pa_cons (pv 2) pa_nil)) ⟨by rfl, by rfl, by rfl, by rfl⟩ (units9 hr))) 
      (pss_one (ps_if (pt_cmpR op_eq (pv 5) (pe_callB call_len_seq (by rfl) T.b_len (by decide +kernel) (pa_cons (pv 2) pa_nil)) (nomark _)) 
        (pss_one (ps_expr (pe_bm PySem.F.plainAttrs_list PySem.F.slot_list_append PySem.F.type_list_append mt_append (pv 2) (pa_cons (pv 4) pa_nil)))) 
        (pss_one (ps_asg (pe_callB (call_minI rfl hr.units) (by rfl) T.b_min (by decide +kernel) (pa_cons (pe_ix ix_list (pv 2) (pv 5) (fun _ _ => rfl)) (pa_cons (pv 4) pa_nil))) (pg_sub (pv 2) (pv 5) set_list)))))))) 
    (pss_one (ps_ret (pe_lc (own := [("condition", 3)]) (by rfl) sc_least_form.nd (pi_list (pv 2)) (blkOk_by (own := [("condition", 3)]) (N := ["conditions", "places", "found", "condition", "least", "place"]) (sc := defScope s_least_form) (by decide +kernel)) (fun _ _ _ _ _ => (pg_name (i := 3) sc_least_form.nd rfl (Or.inl rfl) (Or.inr rfl))) (fun _ _ _ _ _ => pts_one (pt_not (pt_val (pe_call G_always_holds (hr.mono (by decide)) (by rfl) T.g_always_holds T.F_always_holds.kp T.B_always_holds .nil pass0 (pa_cons (pv 3) pa_nil))))) (fun _ _ _ _ _ => (pv 3)))))))), ?_⟩
    walk_at "wp"
    refine fun pl npl => ⟨Nat.zero_le _, fun fl nfl => ⟨⟨_, ((same_upd npl).trans (same_upd nfl)).seq hL⟩, ?_⟩⟩
    have npf : fl ≠ pl := fun z => by rw [z, upd_same] at nfl; cases nfl
    have nfl0 : H fl = none := by rw [← nfl, upd_ne npf]
    have s0 : Same H (upd (upd H pl (NDct P w pl [])) fl (.lst [])) := (same_upd npl).trans (same_upd nfl)
    obtain ⟨Pv, hPv⟩ : ∃ Pv : Nat → St → Hp → Prop, ∀ i σ H', Pv i σ H' ↔ ∃ (fs : List (Addr × Ex)) (xs : List NE) (v3 v4 v5 : Option V), σ = [some (.ref l), some (.ref pl), some (.ref fl), v3, v4, v5] ∧ Same H H' ∧ H' fl = some (.lst (rsv fs)) ∧ RsAll (ExT K) H' fs ∧ H' pl = some (NDct P w pl xs) ∧ KeysIn K H' xs ∧ AlE 0 xs (fs.map (·.2)) ∧
      fs.length ≤ i ∧ (∀ f ∈ fs, ES 100 n f.2) ∧ leastIn (fs.map (·.2)) ((rs.map (·.2)).drop i) = leastIn [] (rs.map (·.2)) := ⟨_, fun _ _ _ => Iff.rfl⟩
    refine loop_it (walk_list (xs := rsv rs)) Pv ((hPv _ _ _).mpr ⟨[], [], _, _, _, rfl, s0, upd_same, (fun r hr' => by cases hr'), by rw [upd_ne (Ne.symm npf), upd_same], (fun x hx => by cases hx), trivial, Nat.zero_le _, (fun f hf => by cases hf), rfl⟩) (fun i σ H' _ pw => by
      obtain ⟨fs, xs, v3, v4, v5, rfl, s1, _⟩ := (hPv _ _ _).mp pw
      exact s1.seq hL) ?_ ?_
    · intro i x σ H1 H2 hi pw yy
      obtain ⟨fs, xs, v3, v4, v5, rfl, s1, efl, ho, epl, hks, al, fl_, wf, er⟩ := (hPv _ _ _).mp pw
      obtain ⟨rfl, e⟩ := yat_at yy
      rw [rsv, List.length_map] at hi
      rw [rsv, List.getElem?_map, List.getElem?_eq_getElem hi] at e
      cases e
      have hmem : rs[i] ∈ rs := List.getElem_mem hi
      generalize hr0 : rs[i] = r at hmem
      have hdrop : (rs.map (·.2)).drop i = r.2 :: (rs.map (·.2)).drop (i + 1) := by
        rw [List.drop_eq_getElem_cons (by rw [List.length_map]; exact hi)]
        congr 1
        rw [← hr0]
        simp
      rw [hdrop, leastIn] at er
      walk_at "wp"
      refine ⟨r.1, r.2, n, rfl, sameT s1 (hA r hmem), hS r hmem, hn, fun H3 y s3 hy => ?_⟩
      have wu := (hS r hmem).red
      generalize redE r.2 = u at *
      refine ⟨⟨xs, s3 _ _ epl⟩, ?_⟩
      have hy' := hy
      unfold ExT at hy'
      rw [ex_list] at hy'
      refine sl_init hy' fun H4 kb s4 hkb => ?_
      have s34 := s3.trans s4
      have efl4 := s34 _ _ efl
      have epl4 := s34 _ _ epl
      have ho4 : RsAll (ExT K) H4 fs := ho.same ex_stay s34
      have hks4 : KeysIn K H4 xs := hks.same s34
      have hy4 : ExT K H4 y u := sameT s4 hy
      have s14 := s1.trans s34
      have lk := alE_look u.1 xs _ 0 al
      have xl := alE_len xs _ 0 al
      rw [List.length_map] at xl
      have lv : (rsv fs).length = fs.length := by rw [rsv, List.length_map]
      refine ⟨_, .inl (SqL.of efl4), xs, epl4, hks4, kb, rfl, ckey u.1, .tup hkb (nk_ints _), ckey_depth _, by rw [xl]; exact small1000 (by omega), ?_, ?_⟩
      · intro v hv
        rw [lk] at hv
        cases hq : fndE u.1 (fs.map (·.2)) with
        | none => rw [hq] at hv; cases hv
        | some j =>
          rw [hq] at hv
          cases hv
          obtain ⟨f, hf', hs⟩ := fndE_some u.1 _ j hq
          have hins := insE_some u _ j f hq hf'
          rw [List.getElem?_map] at hf'
          cases hfj : fs[j]? with
          | none => rw [hfj] at hf'; cases hf'
          | some g =>
            rw [hfj] at hf'
            cases hf'
            have hj : j < fs.length := (List.getElem?_eq_some_iff.mp hfj).1
            refine ⟨_, .inl (SqL.of efl4), rfl, ?_⟩
            rw [if_neg (by rw [lv, decide_eq_true_eq, V.int.injEq]; omega)]
            dsimp only
            rw [Nat.zero_add]
            have gok := ho4 g (List.mem_of_getElem? hfj)
            have ats : atI (rsv fs) (j : Int) = some (.ref g.1) := atI_nat (by rw [rsv, List.getElem?_map, hfj]; rfl)
            have ixj : ixN (rsv fs).length (j : Int) = some j := by
              unfold ixN
              rw [lv]
              simp [hj]
            have fin : ∀ (z : Addr) (c : Ex), ExT K H4 z c → c = (if u.2 < g.2.2 then u else g.2) → Pv (i + 1) [some (.ref l), some (.ref pl), some (.ref fl), some (.ref r.1), some (.ref y), some (.int ((j : Nat) : Int))] (upd H4 fl (.lst ((rsv fs).set j (.ref z)))) := fun z c hc ec => by
              have sb : SBut fl H4 (upd H4 fl (.lst ((rsv fs).set j (.ref z)))) := SBut.upd
              have gl : (rsv fs).set j (.ref z) = rsv (fs.set j (z, c)) := by
                rw [rsv, rsv, List.map_set]
              have wc : ES 100 n c := by
                rw [ec]
                split
                · exact wu
                · exact wf g (List.mem_of_getElem? hfj)
              have c1 : c.1 = g.2.1 := by
                rw [ec]
                split
                · exact hs.symm
                · rfl
              refine (hPv _ _ _).mpr ⟨fs.set j (z, c), xs, _, _, _, rfl, SBut.same sb s14 nfl0, by rw [upd_same, gl], (fun g' hg => ?_), sb _ _ (Ne.symm npf) epl4, (fun x hx => ⟨Nk.but sb efl4 noTup_lst (hks4 x hx).1, (hks4 x hx).2⟩), ?_, by rw [List.length_set]; omega, (fun g' hg => ?_), ?_⟩
              · rcases List.mem_or_eq_of_mem_set hg with hg | rfl
                · exact sqT_but sb efl4 noTup_lst (ho4 g' hg)
                · exact sqT_but sb efl4 noTup_lst hc
              · rw [List.map_set]
                exact alE_set c xs _ 0 j g.2 al (by rw [List.getElem?_map, hfj]; rfl) c1
              · rcases List.mem_or_eq_of_mem_set hg with hg | rfl
                · exact wf g' hg
                · exact wc
              · rw [List.map_set, ← er, hins, ← ec]
            refine ⟨_, _, rfl, SqL.of efl4, _, ats, ?_⟩
            refine ⟨g.1, y, g.2.e, u.e, rfl, gok, hy4, ?_⟩
            refine ⟨_, _, rfl, efl4, _, ixj, ?_⟩
            rw [Ex.e, Ex.e, hs, lexLt_last]
            by_cases hd : u.2 < g.2.2
            · rw [if_pos (decide_eq_true hd)]
              exact fin y u hy4 (if_pos hd).symm
            · rw [if_neg (by rw [decide_eq_true_eq]; exact hd)]
              exact fin g.1 g.2 gok (if_neg hd).symm
      · intro hv
        rw [lk] at hv
        have hq : fndE u.1 (fs.map (·.2)) = none := by
          cases hq : fndE u.1 (fs.map (·.2)) with
          | none => rfl
          | some j => rw [hq] at hv; cases hv
        have hins := insE_none u _ hq
        have sb : SBut pl H4 (upd H4 pl (NDct P w pl (xs ++ [(ckey u.1, kb, V.int ((rsv fs).length : Int))]))) := SBut.upd
        have efl2 := sb _ _ npf efl4
        refine ⟨_, .inl (SqL.of efl2), ?_⟩
        rw [if_pos (decide_eq_true rfl)]
        refine ⟨.inl ⟨rfl, _, SqL.of efl2⟩, _, efl2, by rw [lv]; exact small1000 (by omega), ?_⟩
        have sb2 : SBut fl (upd H4 pl (NDct P w pl (xs ++ [(ckey u.1, kb, V.int ((rsv fs).length : Int))]))) (upd (upd H4 pl (NDct P w pl (xs ++ [(ckey u.1, kb, V.int ((rsv fs).length : Int))]))) fl (.lst (rsv fs ++ [V.ref y]))) := SBut.upd
        have eg : rsv fs ++ [V.ref y] = rsv (fs ++ [(y, u)]) := by rw [rsv, rsv, List.map_append]; rfl
        refine (hPv _ _ _).mpr ⟨fs ++ [(y, u)], xs ++ [(ckey u.1, kb, V.int ((rsv fs).length : Int))], _, _, _, rfl, SBut.same sb2 (SBut.same sb s14 npl) nfl0, by rw [upd_same, eg], (fun g hg => ?_), by rw [upd_ne (Ne.symm npf), upd_same], (fun x hx => ?_), ?_, by rw [List.length_append, List.length_singleton]; omega, (fun g hg => ?_), ?_⟩
        · have two' : ∀ a c, ExT K H4 a c → ExT K _ a c := fun a c hc => sqT_but sb2 efl2 noTup_lst (sqT_but sb epl4 noTup_ext hc)
          rcases List.mem_append.mp hg with hg | hg
          · exact two' _ _ (ho4 g hg)
          · rw [List.mem_singleton.mp hg]
            exact two' _ _ hy4
        · have two' : ∀ v kk, Nk K H4 v kk → Nk K _ v kk := fun v kk hk => Nk.but sb2 efl2 noTup_lst (Nk.but sb epl4 noTup_ext hk)
          rcases List.mem_append.mp hx with hx | hx
          · exact ⟨two' _ _ (hks4 x hx).1, (hks4 x hx).2⟩
          · rw [List.mem_singleton.mp hx]
            exact ⟨two' _ _ (.tup hkb (nk_ints _)), ckey_depth _⟩
        · have := alE_snoc kb u xs _ 0 al
          rw [Nat.zero_add, List.length_map] at this
          rw [lv, List.map_append]
          exact this
        · rcases List.mem_append.mp hg with hg | hg
          · exact wf g hg
          · rw [List.mem_singleton.mp hg]
            exact wu
        · rw [List.map_append, ← er, hins]
          rfl
    · intro σ H1 pw
      obtain ⟨fs, xs, v3, v4, v5, rfl, s1, efl, ho, epl, hks, al, fl_, wf, er⟩ := (hPv _ _ _).mp pw
      walk_at "wp"
      rw [rsv, List.length_map] at fl_ er
      rw [List.drop_of_length_le (by rw [List.length_map]; exact Nat.le_refl _), leastIn] at er
      refine ⟨⟨_, SqL.of efl⟩, fun D hD => ?_⟩
      have hlen : fs.length ≤ 800 := Nat.le_trans fl_ hl
      refine lc_rsF (ex_stay (K := K)) (walk_list (xs := rsv fs)) (fun i => ((fs.map (·.2)).take i).filter fun x => !always x) rfl hD (by rw [rsv, List.length_map]; omega) (fun i hi => Nat.le_trans (List.length_filter_le _ _) (by rw [List.length_take]; omega)) (fun H' s => s.seq (SqL.of efl)) yat_same (fun i x H2 H3 N R hi s2 y kN kR => ?_) (fun H2 ss s2 e2 a2 r2 => ?_)
      · obtain ⟨rfl, e⟩ := yat_at y
        rw [rsv, List.length_map] at hi
        rw [rsv, List.getElem?_map, List.getElem?_eq_getElem hi] at e
        cases e
        have hm : fs[i] ∈ fs := List.getElem_mem hi
        have et : (fs.map (·.2)).take (i + 1) = (fs.map (·.2)).take i ++ [fs[i].2] := by
          rw [List.take_succ_eq_append_getElem (by rw [List.length_map]; exact hi)]
          simp
        rw [et, List.filter_append] at kN kR
        generalize fs[i] = f at *
        walk_at "wp"
        refine ⟨f.1, f.2, rfl, sameT s2 (ho f hm), by rw [(wf f hm).len]; omega, fun H4 s4 => ⟨_, rfl, ?_⟩⟩
        cases ha : always f.2 with
        | true =>
          walk_at "wp"
          refine kN ?_ _ s4
          simp [ha]
        | false =>
          walk_at "wp"
          refine kR f.2 ?_ _ f.1 s4 (sameT (s2.trans s4) (ho f hm))
          simp [ha]
      · refine q _ D ss (s1.trans s2) (s1.free hD) e2 a2 ?_
        rw [r2, leastE, ← er, rsv, List.length_map, List.take_of_length_le (by rw [List.length_map]; exact Nat.le_refl _)]
def addL (a b : List Int) : List Int := List.zipWith (· + ·) a b
def sp_add (K : PySem.W.Frag) : Sp := fun vs H Q _ => ∃ (a b : Addr) (xs ys : List Int), vs = [.ref a, .ref b] ∧ SqT K H a (xs.map V.int) ∧ SqT K H b (ys.map V.int) ∧ xs.length = ys.length ∧ ys.length ≤ 100 ∧ ∀ H' t, Same H H' → SqT K H' t ((addL xs ys).map V.int) → Q (.ref t) H'
def sp_multiply (K : PySem.W.Frag) : Sp := fun vs H Q _ => ∃ (f : Int) (a : Addr) (xs : List Int), vs = [.int f, .ref a] ∧ SqT K H a (xs.map V.int) ∧ xs.length ≤ 100 ∧ Sz 100 f ∧ (∀ x ∈ xs, Sz 100 x) ∧ ∀ H' t, Same H H' → SqT K H' t ((xs.map (f * ·)).map V.int) → Q (.ref t) H'
/-! ### the elimination of a variable -/
def co (k : Nat) (x : Ex) : Int := x.1.getD k 0
def comb (k : Nat) (l u : Ex) : Ex := (addL (l.1.map (-co k u * ·)) (u.1.map (co k l * ·)), -co k u * l.2 + co k l * u.2)
def combs (k : Nat) (ls us : List Ex) : List Ex := (ls.map fun l => us.map fun u => comb k l u).flatten
def oth (k : Nat) (l : List Ex) : List Ex := l.filter fun x => decide (co k x = 0)
def low (k : Nat) (l : List Ex) : List Ex := l.filter fun x => decide (0 < co k x)
def upp (k : Nat) (l : List Ex) : List Ex := l.filter fun x => decide (co k x < 0)
def elimIn (k : Nat) (l : List Ex) : List Ex := if 64 < (oth k l).length + (low k l).length * (upp k l).length then oth k l else oth k l ++ combs k (low k l) (upp k l)
theorem comb_e (k : Nat) (l u : Ex) (h : l.1.length = u.1.length) : (comb k l u).e = addL (l.e.map (-co k u * ·)) (u.e.map (co k l * ·)) := by
  rw [Ex.e, Ex.e, Ex.e, List.map_append, List.map_append, addL, List.zipWith_append (by rw [List.length_map, List.length_map, h])]
  rfl
theorem comb_co (k : Nat) (l u : Ex) (h : l.1.length = u.1.length) (hk : k < u.1.length) : co k (comb k l u) = 0 := by
  unfold co comb addL
  rw [List.getD_eq_getElem?_getD, List.getElem?_zipWith, List.getElem?_map, List.getElem?_map, List.getElem?_eq_getElem hk, List.getElem?_eq_getElem (by omega)]
  show -co k u * l.1[k] + co k l * u.1[k] = 0
  have e1 : co k u = u.1[k] := by rw [co, List.getD_eq_getElem?_getD, List.getElem?_eq_getElem hk]; rfl
  have e2 : co k l = l.1[k] := by rw [co, List.getD_eq_getElem?_getD, List.getElem?_eq_getElem (by omega)]; rfl
  rw [e1, e2, Int.neg_mul, Int.mul_comm]
  omega
theorem getD_mem {l : List Int} {k : Nat} (h : k < l.length) : l.getD k 0 ∈ l := by
  rw [List.getD_eq_getElem?_getD, List.getElem?_eq_getElem h]
  exact List.getElem_mem h
theorem co_sz {b n k : Nat} {x : Ex} (h : ES b n x) : Sz b (co k x) := by
  unfold co
  by_cases hk : k < x.1.length
  · exact h.cs _ (getD_mem hk)
  · rw [List.getD_eq_getElem?_getD, List.getElem?_eq_none (by omega)]
    exact Sz.zero _
theorem zw_sz {b : Nat} : ∀ {xs ys : List Int}, (∀ x ∈ xs, Sz b x) → (∀ y ∈ ys, Sz b y) → ∀ z ∈ addL xs ys, Sz (b + 1) z
  | [], _, _, _, z, hz => by simp [addL] at hz
  | _ :: _, [], _, _, z, hz => by simp [addL] at hz
  | x :: xs, y :: ys, h, k, z, hz => by
    rw [addL, List.zipWith_cons_cons] at hz
    rcases List.mem_cons.mp hz with rfl | hz
    · exact (h x List.mem_cons_self).add (k y List.mem_cons_self)
    · exact zw_sz (fun w hw => h w (List.mem_cons_of_mem _ hw)) (fun w hw => k w (List.mem_cons_of_mem _ hw)) z hz
theorem sz_neg {a : Nat} {x : Int} (h : Sz a x) : Sz a (-x) := by
  unfold Sz at *
  rw [Int.natAbs_neg]
  exact h
theorem comb_es {b n k : Nat} {l u : Ex} (hl : ES b n l) (hu : ES b n u) : ES (b + b + 1) n (comb k l u) := by
  refine ⟨by rw [comb, addL, List.length_zipWith, List.length_map, List.length_map, hl.len, hu.len, Nat.min_self], zw_sz (fun x hx => ?_) (fun y hy => ?_), Sz.add ?_ ?_⟩
  · obtain ⟨z, hz, rfl⟩ := List.mem_map.mp hx
    exact (sz_neg (co_sz hu)).mul (hl.cs z hz)
  · obtain ⟨z, hz, rfl⟩ := List.mem_map.mp hy
    exact (co_sz hl).mul (hu.cs z hz)
  · exact (sz_neg (co_sz hu)).mul hl.d
  · exact (co_sz hl).mul hu.d
theorem combs_mem {k : Nat} {ls us : List Ex} {x : Ex} (h : x ∈ combs k ls us) : ∃ l ∈ ls, ∃ u ∈ us, x = comb k l u := by
  obtain ⟨r, hr, hx⟩ := List.mem_flatten.mp h
  obtain ⟨l, hl, rfl⟩ := List.mem_map.mp hr
  obtain ⟨u, hu, rfl⟩ := List.mem_map.mp hx
  exact ⟨l, hl, u, hu, rfl⟩
theorem combs_len (k : Nat) (ls us : List Ex) : (combs k ls us).length = ls.length * us.length := by
  rw [combs, List.length_flatten, List.map_map]
  induction ls with
  | nil => simp
  | cons l r ih =>
    rw [List.map_cons, List.sum_cons, ih, List.length_cons, Nat.add_mul, Nat.one_mul]
    show (us.map fun u => comb k l u).length + _ = _
    rw [List.length_map, Nat.add_comm]
theorem at_co {k : Nat} {x : Ex} (h : k < x.1.length) : atI (x.e.map V.int) (k : Int) = some (V.int (co k x)) := by
  refine atI_nat ?_
  rw [List.getElem?_map, Ex.e, List.getElem?_append_left h, co, List.getD_eq_getElem?_getD, List.getElem?_eq_getElem h]
  rfl
def sp_eliminate (K : PySem.W.Frag) : Sp := fun vs H Q _ => ∃ (l : Addr) (rs : List (Addr × Ex)) (n k : Nat), vs = [.ref l, .int (k : Int)] ∧ SqL K H l (rsv rs) ∧ RsAll (ExT K) H rs ∧ (∀ r ∈ rs, ES 20 n r.2) ∧ n ≤ 90 ∧ k < n ∧ rs.length ≤ 30 ∧
  ∀ H' p ss, Same H H' → H p = none → H' p = some (.lst (rsv ss)) → RsAll (ExT K) H' ss → ss.map (·.2) = leastE (elimIn k (rs.map (·.2))) → Q (.ref p) H'
theorem filt_map {α : Type} (b : α → Bool) (rs : List (Addr × α)) : (rs.filter fun r => b r.2).map (·.2) = (rs.map (·.2)).filter b := by
  rw [List.filter_map]
  rfl
theorem RsAll.filt {α : Type} {P : Hp → Addr → α → Prop} {H : Hp} {rs : List (Addr × α)} (h : RsAll P H rs) (b : (Addr × α) → Bool) : RsAll P H (rs.filter b) := fun r hr => h r (List.mem_filter.mp hr).1
theorem ok_add (T : Txt K mg A) : FnOk P w K mg base CX0 1 A.f_add A.d_add ["one", "other"] (sp_add K) := by
  refine T.F_add.ok sc_add (fun vs H Q E h => ?_) (fun cdv A' outer s H vs Q E hr h => ?_)
  · obtain ⟨a, b, xs, ys, rfl, _⟩ := h
    rfl
  · obtain ⟨a, b, xs, ys, rfl, hX, hY, hl, hn, q⟩ := h
    refine ⟨_, (pss_one (ps_ret (pe_callTy call_tuple_of (by rfl) T.b_tuple (by decide +kernel) (pa_cons (pe_lc (own := [("a", 2), ("b", 3)]) (g := (gTup K 2 (gCons (gName 2) (gCons (gName 3) gNil)))) (by rfl) sc_add.nd (RZ.pi_zipA (by rfl) T.b_zip (pa_cons (pv 0) (pa_cons (pv 1) pa_nil))) (blkOk_by (own := [("a", 2), ("b", 3)]) (N := ["one", "other", "a", "b"]) (sc := defScope s_add) (by decide +kernel)) (fun _ _ _ _ _ => (pg_tup rfl (pgs_cons (pg_name (i := 2) sc_add.nd rfl (Or.inl rfl) (Or.inr rfl)) (pgs_cons (pg_name (i := 3) sc_add.nd rfl (Or.inl rfl) (Or.inr rfl)) pgs_nil)))) (fun _ _ _ _ _ => pts_nil) (fun _ _ _ _ _ => (pe_op op_add (pv 2) (pv 3)))) pa_nil)))), ?_⟩
    walk_at "wp"
    refine ⟨_, _, .inr ⟨hX, hY, fun D hD => ?_⟩⟩
    refine lc_ys (walk_zipT (n := ys.length) (by rw [List.length_map, List.length_map, hl]; omega)) ((List.zipWith (· + ·) xs ys).map V.int) hD (by omega) (by rw [List.length_map, List.length_zipWith, hl]; omega) (fun H' s' => ⟨sameT s' hX, sameT s' hY⟩) ypair_same (fun i x y H1 H2 R hi hy s1 yy k => ?_) (fun H' s' e => ?_)
    · obtain ⟨t, x, z, rfl, nt, rfl, e1, e2⟩ := yy
      have hi' : i < xs.length := by omega
      rw [List.getElem?_map, List.getElem?_zipWith, List.getElem?_eq_getElem hi, List.getElem?_eq_getElem hi'] at hy
      dsimp only at e1 e2
      rw [List.getElem?_map, List.getElem?_eq_getElem hi'] at e1
      rw [List.getElem?_map, List.getElem?_eq_getElem hi] at e2
      cases e1
      cases e2
      cases hy
      walk_at "wp"
      refine ⟨_, .inl (.inl upd_same), ?_⟩
      walk_at "wp"
      exact k _ (Same.refl _)
    · exact ⟨_, .inl ⟨SqL.of e, fun t nt => q _ _ (same_upd2 s' (s'.free nt)) (SqT.of upd_same)⟩⟩
theorem ok_multiply (T : Txt K mg A) : FnOk P w K mg base CX0 1 A.f_multiply A.d_multiply ["factor", "expression"] (sp_multiply K) := by
  refine T.F_multiply.ok sc_multiply (fun vs H Q E h => ?_) (fun cdv A' outer s H vs Q E hr h => ?_)
  · obtain ⟨f, a, xs, rfl, _⟩ := h
    rfl
  · obtain ⟨f, a, xs, rfl, hX, hn, hf, hx, q⟩ := h
    refine ⟨_, (pss_one (ps_ret (pe_callTy call_tuple_of (by rfl) T.b_tuple (by decide +kernel) (pa_cons (pe_lc (own := [("number", 2)]) (by rfl) sc_multiply.nd (pi_tup (pv 1)) (blkOk_by (own := [("number", 2)]) (N := ["factor", "expression", "number"]) (sc := defScope s_multiply) (by decide +kernel)) (fun _ _ _ _ _ => (pg_name (i := 2) sc_multiply.nd rfl (Or.inl rfl) (Or.inr rfl))) (fun _ _ _ _ _ => pts_nil) (fun _ _ _ _ _ => (pe_op op_mulX (pv 0) (pv 2)))) pa_nil)))), ?_⟩
    walk_at "wp"
    refine ⟨⟨_, hX⟩, fun D hD => lc_tupI (f * ·) hX hD (by omega) (fun x H' R hm s1 k => ?_) (fun H' s' e' => ?_)⟩
    · walk_at "wp"
      exact ⟨⟨_, _, hf, hx x hm, by decide⟩, k _ (Same.refl _)⟩
    · exact ⟨_, .inl ⟨SqL.of e', fun t nt => q _ _ (same_upd2 s' (s'.free nt)) (SqT.of upd_same)⟩⟩
theorem ok_eliminate (T : Txt K mg A) : FnOk P w K mg base CX0 4 A.f_eliminate A.d_eliminate ["conditions", "index"] (sp_eliminate K) := by
  have G_least_form := ok_least_form (P := P) (w := w) (base := base) T
  have G_add := ok_add (P := P) (w := w) (base := base) T
  have G_multiply := ok_multiply (P := P) (w := w) (base := base) T
  refine T.F_eliminate.ok sc_eliminate (fun vs H Q E h => ?_) (fun cdv A' outer s H vs Q E hr h => ?_)
  · obtain ⟨l, rs, n, k, rfl, _⟩ := h
    rfl
  · obtain ⟨l, rs, n, k, rfl, hL, hA, hS, hn, hk, hl, q⟩ := h
    refine ⟨_, (pss_cons (ps_setLc (i := 2) (own := [("condition", 3)]) (by rfl) sc_eliminate.nd rfl rfl (sw_true rfl rfl rfl (by decide +kernel)) (pi_list (pv 0)) (blkOk_by (own := [("condition", 3)]) (N := ["conditions", "index", "others", "condition", "lowers", "uppers", "lower", "upper"]) (sc := defScope s_eliminate) (by decide +kernel)) (fun _ _ _ _ _ => (pg_name (i := 3) sc_eliminate.nd rfl (Or.inl rfl) (Or.inr rfl))) (fun _ _ _ _ _ => pts_one (pt_cmpR op_eq (pe_ix (r := rIxT K) ix_tup (pv 3) (pv 1) (fun _ _ => rfl)) pe_int (nomark _))) (fun _ _ _ _ _ => (pv 3))) 
    (pss_cons (ps_setLc (i := 4) (own := [("condition", 3)]) (by rfl) sc_eliminate.nd rfl rfl (sw_true rfl rfl rfl (by decide +kernel)) (pi_list (pv 0)) (blkOk_by (own := [("condition", 3)]) (N := ["conditions", "index", "others", "condition", "lowers", "uppers", "lower", "upper"]) (sc := defScope s_eliminate) (by decide +kernel)) (fun _ _ _ _ _ => (pg_name (i := 3) sc_eliminate.nd rfl (Or.inl rfl) (Or.inr rfl))) (fun _ _ _ _ _ => pts_one (pt_cmpR op_gt (pe_ix (r := rIxT K) ix_tup (pv 3) (pv 1) (fun _ _ => rfl)) pe_int (nomark _))) (fun _ _ _ _ _ => (pv 3))) 
    (pss_cons (ps_set (i := 5) sc_eliminate.nd rfl (Or.inr rfl) (pe_lc (own := [("condition", 3)]) (by rfl) sc_eliminate.nd (pi_list (pv 0)) (blkOk_by (own := [("condition", 3)]) (N := ["conditions", "index", "others", "condition", "lowers", "uppers", "lower", "upper"]) (sc := defScope s_eliminate) (by decide +kernel)) (fun _ _ _ _ _ => (pg_name (i := 3) sc_eliminate.nd rfl (Or.inl rfl) (Or.inr rfl))) (fun _ _ _ _ _ => pts_one (pt_cmpR op_lt (pe_ix (r := rIxT K) ix_tup (pv 3) (pv 1) (fun _ _ => rfl)) pe_int (nomark _))) (fun _ _ _ _ _ => (pv 3)))) 
    (pss_cons (ps_if (pt_cmpR op_gt (pe_op op_add (pe_callB call_len_seq (by rfl) T.b_len (by decide +kernel) (pa_cons (pv 2) pa_nil)) (pe_op op_mulX (pe_callB call_len_seq (by rfl) T.b_len (by decide +kernel) (pa_cons (pv 4) pa_nil)) (pe_callB call_len_seq (by rfl) T.b_len (by decide +kernel) (pa_cons (pv 5) pa_nil)))) (pe_glob (v := .int 64) rfl T.g_MOST_ELIMINATED ⟨_, rfl⟩) (nomark _)) 
      (pss_one (ps_ret (pe_call G_least_form hr (by rfl) T.g_least_form T.F_least_form.kp T.B_least_form .nil pass0 (pa_cons (pv 2) pa_nil)))) pss_nil) 
    (pss_one (ps_ret (pe_call G_least_form hr (by rfl) T.g_least_form T.F_least_form.kp T.B_least_form .nil pass0 (pa_cons (pe_op op_cat (pv 2) (pe_lc2 (own := [("lower", 6), ("upper", 7)]) (by rfl) sc_eliminate.nd (pi_list (pv 4)) (blkOk_by (own := [("lower", 6), ("upper", 7)]) (N := ["conditions", "index", "others", "condition", "lowers", "uppers", "lower", "upper"]) (sc := defScope s_eliminate) (by decide +kernel)) (vs1 := [7]) (by decide) (fun _ _ _ _ _ => (pg_name (i := 6) sc_eliminate.nd rfl (Or.inl rfl) (Or.inr rfl))) (fun _ _ _ _ _ => pts_nil) (fun _ _ _ _ _ => (pi_listK (K := K) (by rfl) (pv 5))) (fun _ _ _ _ _ => (pg_name (i := 7) sc_eliminate.nd rfl (Or.inl rfl) (Or.inr rfl))) (fun _ _ _ _ _ => pts_nil) (fun _ _ _ _ _ => (pe_call G_add (hr.mono (by decide)) (by rfl) T.g_add T.F_add.kp T.B_add .nil pass0 (pa_cons (pe_call G_multiply (hr.mono (by decide)) (by rfl) T.g_multiply T.F_multiply.kp T.B_multiply .nil pass0 (pa_cons (pe_un un_neg (pe_ix (r := rIxT K) ix_tup (pv 7) (pv 1) (fun _ _ => rfl))) (pa_cons (pv 6) pa_nil))) (pa_cons (pe_call G_multiply (hr.mono (by decide)) (by rfl) T.g_multiply T.F_multiply.kp T.B_multiply .nil pass0 (pa_cons (pe_ix (r := rIxT K) ix_tup (pv 6) (pv 1) (fun _ _ => rfl)) (pa_cons (pv 7) pa_nil))) pa_nil)))))) pa_nil)))))))), ?_⟩
    walk_at "wp"
    have co_at : ∀ r ∈ rs, atI (r.2.e.map V.int) (k : Int) = some (V.int (co k r.2)) := fun r hr => at_co (by rw [(hS r hr).len]; exact hk)
    refine ⟨⟨_, hL⟩, fun D1 hD1 => lc_filt (fun x => decide (co k x = 0)) hL hD1 (by omega) (fun r H2 N R hr s2 kN kR => ?_) (fun H2 s2 e2 => ?_)⟩
    · walk_at "wp"
      refine ⟨_, sameT s2 (hA r hr), _, co_at r hr, rfl, ?_⟩
      walk_at "wp"
      by_cases hc : co k r.2 = 0
      · rw [if_pos (decide_eq_true hc)]
        exact kR (decide_eq_true hc) _ (Same.refl _)
      · rw [if_neg (by rw [decide_eq_true_eq]; exact hc)]
        exact kN (decide_eq_false hc) _ (Same.refl _)
    refine ⟨⟨_, s2.seq hL⟩, fun D2 hD2 => lc_filt (fun x => decide (0 < co k x)) (s2.seq hL) hD2 (by omega) (fun r H3 N R hr s3 kN kR => ?_) (fun H3 s3 e3 => ?_)⟩
    · walk_at "wp"
      refine ⟨_, sameT (s2.trans s3) (hA r hr), _, co_at r hr, _, rfl, ?_⟩
      by_cases hc : 0 < co k r.2
      · rw [if_pos (decide_eq_true hc)]
        exact kR (decide_eq_true hc) _ (Same.refl _)
      · rw [if_neg (by rw [decide_eq_true_eq]; exact hc)]
        exact kN (decide_eq_false hc) _ (Same.refl _)
    have s13 := s2.trans s3
    refine ⟨⟨_, s13.seq hL⟩, fun D3 hD3 => lc_filt (fun x => decide (co k x < 0)) (s13.seq hL) hD3 (by omega) (fun r H4 N R hr s4 kN kR => ?_) (fun H4 s4 e4 => ?_)⟩
    · walk_at "wp"
      refine ⟨_, sameT (s13.trans s4) (hA r hr), _, co_at r hr, _, rfl, ?_⟩
      by_cases hc : co k r.2 < 0
      · rw [if_pos (decide_eq_true hc)]
        exact kR (decide_eq_true hc) _ (Same.refl _)
      · rw [if_neg (by rw [decide_eq_true_eq]; exact hc)]
        exact kN (decide_eq_false hc) _ (Same.refl _)
    have s14 := s13.trans s4
    have f1 : H4 D1 = some (.lst (rsv (rs.filter fun r => decide (co k r.2 = 0)))) := s4 _ _ (s3 _ _ e2)
    have f2 : H4 D2 = some (.lst (rsv (rs.filter fun r => decide (0 < co k r.2)))) := s4 _ _ e3
    have hA4 := hA.same ex_stay s14
    have ho := RsAll.filt hA4 fun r => decide (co k r.2 = 0)
    have hl4 := RsAll.filt hA4 fun r => decide (0 < co k r.2)
    have hu4 := RsAll.filt hA4 fun r => decide (co k r.2 < 0)
    have mo : (rs.filter fun r => decide (co k r.2 = 0)).map (·.2) = oth k (rs.map (·.2)) := filt_map (fun x => decide (co k x = 0)) rs
    have ml : (rs.filter fun r => decide (0 < co k r.2)).map (·.2) = low k (rs.map (·.2)) := filt_map (fun x => decide (0 < co k x)) rs
    have mu : (rs.filter fun r => decide (co k r.2 < 0)).map (·.2) = upp k (rs.map (·.2)) := filt_map (fun x => decide (co k x < 0)) rs
    have wo : ∀ r ∈ rs.filter fun r => decide (co k r.2 = 0), ES 20 n r.2 := fun r hr => hS r (List.mem_filter.mp hr).1
    have wl : ∀ r ∈ rs.filter fun r => decide (0 < co k r.2), ES 20 n r.2 := fun r hr => hS r (List.mem_filter.mp hr).1
    have wu : ∀ r ∈ rs.filter fun r => decide (co k r.2 < 0), ES 20 n r.2 := fun r hr => hS r (List.mem_filter.mp hr).1
    have no : (rs.filter fun r => decide (co k r.2 = 0)).length ≤ 30 := Nat.le_trans (List.length_filter_le _ _) hl
    have nl : (rs.filter fun r => decide (0 < co k r.2)).length ≤ 30 := Nat.le_trans (List.length_filter_le _ _) hl
    have nu : (rs.filter fun r => decide (co k r.2 < 0)).length ≤ 30 := Nat.le_trans (List.length_filter_le _ _) hl
    generalize (rs.filter fun r => decide (co k r.2 = 0)) = os at *
    generalize (rs.filter fun r => decide (0 < co k r.2)) = ls at *
    generalize (rs.filter fun r => decide (co k r.2 < 0)) = us at *
    have lo : (oth k (rs.map (·.2))).length = os.length := by rw [← mo, List.length_map]
    have ll : (low k (rs.map (·.2))).length = ls.length := by rw [← ml, List.length_map]
    have lu : (upp k (rs.map (·.2))).length = us.length := by rw [← mu, List.length_map]
    have vo : (rsv os).length = os.length := List.length_map ..
    have vl : (rsv ls).length = ls.length := List.length_map ..
    have vu : (rsv us).length = us.length := List.length_map ..
    have hq : ∀ ys, elimIn k (rs.map (·.2)) = ys → ∀ (H5 : Hp) (pp : Addr) (ts : List (Addr × Ex)), Same H H5 → H5 pp = some (.lst (rsv ts)) → RsAll (ExT K) H5 ts → ts.map (·.2) = ys → (∀ r ∈ ts, ES 100 n r.2) → ts.length ≤ 800 → ∀ E0, sp_least_form K [V.ref pp] H5 Q E0 := fun ys e H5 pp ts s5 e5 a5 m5 w5 l5 E0 =>
      ⟨pp, ts, n, rfl, SqL.of e5, a5, w5, hn, l5, fun H6 p6 ss s6 f6 e6 a6 r6 => q H6 p6 ss (s5.trans s6) (s5.free f6) e6 a6 (by rw [r6, m5, e])⟩
    refine ⟨_, .inl (SqL.of f1), _, .inl (SqL.of f2), _, .inl (SqL.of e4), ⟨32, 32, ?_, ?_, by decide⟩, ?_⟩
    · unfold Sz
      show Int.natAbs _ < 4294967296
      rw [vl]
      omega
    · unfold Sz
      show Int.natAbs _ < 4294967296
      rw [vu]
      omega
    rw [vo, vl, vu]
    have e64 : decide ((64 : Int) < (os.length : Int) + (ls.length : Int) * (us.length : Int)) = decide (64 < (oth k (rs.map (·.2))).length + (low k (rs.map (·.2))).length * (upp k (rs.map (·.2))).length) := by
      rw [lo, ll, lu, ← Int.natCast_mul, ← Int.natCast_add]
      exact decide_eq_decide.mpr (by omega)
    rw [e64]
    by_cases h64 : 64 < (oth k (rs.map (·.2))).length + (low k (rs.map (·.2))).length * (upp k (rs.map (·.2))).length
    · rw [if_pos (decide_eq_true h64)]
      exact hq _ (if_pos h64) H4 D1 os s14 f1 ho mo (fun r hr => (wo r hr).mono (by decide)) (by omega) _
    · rw [if_neg (by rw [decide_eq_true_eq]; exact h64)]
      refine ⟨⟨_, SqL.of f2⟩, fun D4 hD4 => ?_⟩
      obtain ⟨Pv, hPv⟩ : ∃ Pv : Nat → Hp → Prop, ∀ i H', Pv i H' ↔ Same H4 H' ∧ ∃ ts, H' D4 = some (.lst (rsv ts)) ∧ RsAll (ExT K) H' ts ∧ ts.map (·.2) = combs k ((ls.take i).map (·.2)) (us.map (·.2)) := ⟨_, fun _ _ => Iff.rfl⟩
      refine loopc2_it (walk_list (xs := rsv ls)) Pv ((hPv _ _).mpr ⟨same_upd hD4, [], upd_same, (fun _ h => by cases h), rfl⟩) (fun i H' _ pw => ((hPv _ _).mp pw).1.seq (SqL.of f2)) ?_ ?_
      · intro i x H5 H6 hi pw yy
        obtain ⟨s5, ts, et, at_, mt⟩ := (hPv _ _).mp pw
        obtain ⟨rfl, e⟩ := yat_at yy
        rw [vl] at hi
        rw [rsv, List.getElem?_map, List.getElem?_eq_getElem hi] at e
        cases e
        have hr := List.getElem_mem hi
        have etk : ls.take (i + 1) = ls.take i ++ [ls[i]] := List.take_succ_eq_append_getElem hi
        have mnext : combs k ((ls.take (i + 1)).map (·.2)) (us.map (·.2)) = ts.map (·.2) ++ (us.map (·.2)).map fun u => comb k ls[i].2 u := by
          rw [etk, List.map_append, combs, List.map_append, List.flatten_append, mt, combs]
          simp
        have lt : ts.length ≤ 900 := by
          have := congrArg List.length mt
          rw [List.length_map, combs_len, List.length_map, List.length_map, List.length_take] at this
          rw [this]
          exact Nat.le_trans (Nat.mul_le_mul (show min i ls.length ≤ 30 by omega) nu) (by decide)
        generalize ls[i] = g at *
        have hgk := wl g hr
        walk_at "wp"
        refine ⟨⟨_, SqL.of (s5 _ _ e4)⟩, ?_⟩
        obtain ⟨Pw, hPw⟩ : ∃ Pw : Nat → Hp → Prop, ∀ j H', Pw j H' ↔ Same H4 H' ∧ ∃ vs, H' D4 = some (.lst (rsv vs)) ∧ RsAll (ExT K) H' vs ∧ vs.map (·.2) = ts.map (·.2) ++ ((us.take j).map (·.2)).map fun u => comb k g.2 u := ⟨_, fun _ _ => Iff.rfl⟩
        refine loopi_it (walk_list (xs := rsv us)) Pw ((hPw _ _).mpr ⟨s5, ts, et, at_, by simp⟩) (fun i H' _ pw => ((hPw _ _).mp pw).1.seq (SqL.of e4)) ?_ ?_
        · intro j x H7 H8 hj pw yy
          obtain ⟨s7, vs, ev, av, mv⟩ := (hPw _ _).mp pw
          obtain ⟨rfl, e⟩ := yat_at yy
          rw [vu] at hj
          rw [rsv, List.getElem?_map, List.getElem?_eq_getElem hj] at e
          cases e
          have hu := List.getElem_mem hj
          have etu : us.take (j + 1) = us.take j ++ [us[j]] := List.take_succ_eq_append_getElem hj
          generalize us[j] = u at *
          have huk := wu u hu
          have hg7 := sameT s7 (hl4 g hr)
          have hu7 := sameT s7 (hu4 u hu)
          have au := at_co (k := k) (x := u.2) (by rw [huk.len]; exact hk)
          have ag := at_co (k := k) (x := g.2) (by rw [hgk.len]; exact hk)
          have lvs : vs.length ≤ 930 := by
            have := congrArg List.length mv
            rw [List.length_map, List.length_append, List.length_map, List.length_map, List.length_map, List.length_take] at this
            omega
          walk_at "wp"
          refine ⟨_, hu7, _, au, _, rfl, _, g.1, g.2.e, rfl, hg7, by rw [hgk.elen]; omega, (sz_neg (co_sz huk)).mono (by decide), fun x hx => (hgk.e x hx).mono (by decide), fun H9 p9 s9 h9 => ?_⟩
          refine ⟨_, sameT s9 hg7, _, ag, _, u.1, u.2.e, rfl, sameT s9 hu7, by rw [huk.elen]; omega, (co_sz hgk).mono (by decide), fun x hx => (huk.e x hx).mono (by decide), fun H10 p10 s10 h10 => ?_⟩
          refine ⟨p9, p10, _, _, rfl, sameT s10 h9, h10, by rw [List.length_map, List.length_map, hgk.elen, huk.elen], by rw [List.length_map, huk.elen]; omega, fun H11 p11 s11 h11 => ?_⟩
          have s711 := (s9.trans s10).trans s11
          have ev11 := s711 _ _ ev
          rw [← comb_e k g.2 u.2 (by rw [hgk.len, huk.len])] at h11
          refine ⟨_, ev11, small1000 (by rw [rsv, List.length_map]; omega), (hPw _ _).mpr ⟨same_upd2 (s7.trans s711) hD4, vs ++ [(p11, comb k g.2 u.2)], by rw [upd_same, rsv, rsv, List.map_append]; rfl, fun r hr => ?_, ?_⟩⟩
          · rcases List.mem_append.mp hr with h | h
            · exact ex_stay.lst ev11 (av.same ex_stay s711 r h)
            · rw [List.mem_singleton.mp h]
              exact ex_stay.lst ev11 h11
          · rw [List.map_append, mv, etu, List.map_append, List.map_append, List.append_assoc]
            rfl
        · intro H7 pw
          obtain ⟨s7, vs, ev, av, mv⟩ := (hPw _ _).mp pw
          rw [vu, List.take_length] at mv
          exact (hPv _ _).mpr ⟨s7, vs, ev, av, by rw [mv, mnext]⟩
      · intro H5 pw
        obtain ⟨s5, ts, et, at_, mt⟩ := (hPv _ _).mp pw
        rw [vl, List.take_length, ml, mu] at mt
        have lt : ts.length = ls.length * us.length := by
          have := congrArg List.length mt
          rwa [List.length_map, combs_len, ll, lu] at this
        rw [lo, ll, lu, ← lt] at h64
        have f5 := s5 _ _ f1
        refine ⟨D1, D4, rsv os, rsv ts, rfl, rfl, f5, et, by rw [vo, rsv, List.length_map]; exact Nat.le_of_lt (small1000 (by omega)), fun p6 n6 => ?_⟩
        have s6 := same_upd (o := .lst (rsv os ++ rsv ts)) n6
        refine hq _ (if_neg (by rw [lo, ll, lu, ← lt]; exact h64)) _ p6 (os ++ ts) (s14.trans (s5.trans s6)) (by rw [upd_same, rsv, rsv, rsv, List.map_append]) (fun r hr => ?_) (by rw [List.map_append, mo, mt]) (fun r hr => ?_) (by rw [List.length_append]; omega) _
        · rcases List.mem_append.mp hr with h | h
          · exact sameT (s5.trans s6) (ho r h)
          · exact sameT s6 (at_ r h)
        · rcases List.mem_append.mp hr with h | h
          · exact (wo r h).mono (by decide)
          · have hm : r.2 ∈ combs k (low k (rs.map (·.2))) (upp k (rs.map (·.2))) := by rw [← mt]; exact List.mem_map.mpr ⟨r, h, rfl⟩
            obtain ⟨a, ha, b, hb, e⟩ := combs_mem hm
            rw [← ml] at ha
            rw [← mu] at hb
            obtain ⟨ra, hra, rfl⟩ := List.mem_map.mp ha
            obtain ⟨rb, hrb, rfl⟩ := List.mem_map.mp hb
            rw [e]
            exact (comb_es (wl ra hra) (wu rb hrb)).mono (by decide)
def sp_law_cell (K : PySem.W.Frag) : Sp := fun vs H Q _ => ∃ (l : Addr) (ns : List Int) (j : Nat), vs = [V.ref l, V.int (j : Nat)] ∧ SqL K H l (ns.map V.int) ∧ Q (.int (L2.cellOf ns j)) H
def sp_law_draws (K : PySem.W.Frag) : Sp := fun vs H Q _ => ∃ c : Int, vs = [.int c, .int 12] ∧ ∀ H' t (ds : List Int), Same H H' → H' t = some (.lst (ds.map V.int)) → H t = none → ds.length = 12 → Q (.ref t) H'
def sp_law_stream (K : PySem.W.Frag) : Sp := fun vs H Q _ => ∃ (l : Addr) (ns : List Int) (first count : Nat), vs = [.ref l, .int (first : Int), .int (count : Int)] ∧ SqL K H l (ns.map V.int) ∧ 1 ≤ count ∧ count ≤ 100 ∧
  ∀ H' st d p, Same H H' → Stm H' st d p → H p = none → Q (.ref st) H'
def sp_law_next (K : PySem.W.Frag) : Sp := fun vs H Q _ => ∃ (st d p : Addr) (m : Int), vs = [.ref st, .int m] ∧ Stm H st d p ∧ 0 < m ∧ ∀ H' (v : Int), Stp p H H' → 0 ≤ v → v < m → Q (.int v) H'
theorem ok_law_cell (T : Txt K mg A) : FnOk P w K mg base CX0 1 A.f_law_cell A.d_law_cell ["script", "k"] (sp_law_cell K) := by
  refine T.F_law_cell.ok sc_law_cell (fun vs H Q E h => ?_) (fun cdv A' outer s H vs Q E hr h => ?_)
  · obtain ⟨a, ns, j, rfl, _⟩ := h
    rfl
  · obtain ⟨a, ns, j, rfl, hS, q⟩ := h
    refine ⟨_, (pss_cons (ps_if (pt_cmpR op_lt (pv 1) (pe_callB call_len_seq (by rfl) T.b_len (by decide +kernel) (pa_cons (pv 0) pa_nil)) (nomark _)) 
      (pss_one (ps_ret (pe_callTy call_intI (by rfl) T.b_int (by decide +kernel) (pa_cons (pe_ix ix_list (pv 0) (pv 1) (fun _ _ => rfl)) pa_nil)))) pss_nil) 
    (pss_one (ps_ret pe_int))), ?_⟩
    walk_at "wp"
    refine ⟨_, .inl hS, ?_⟩
    by_cases hj : j < ns.length
    · rw [if_pos (by rw [List.length_map]; exact decide_eq_true (by omega))]
      refine ⟨_, hS, _, atI_cell hj, _, rfl, q⟩
    · rw [if_neg (by rw [List.length_map, decide_eq_true_eq]; omega)]
      rw [cell_out hj] at q
      exact q
theorem ok_law_draws (T : Txt K mg A) : FnOk P w K mg base CX0 1 A.f_law_draws A.d_law_draws ["cell", "count"] (sp_law_draws K) := by
  refine T.F_law_draws.ok sc_law_draws (fun vs H Q E h => ?_) (fun cdv A' outer s H vs Q E hr h => ?_)
  · obtain ⟨c, rfl, _⟩ := h
    rfl
  · obtain ⟨c, rfl, q⟩ := h
    refine ⟨_, (pss_cons (ps_set (i := 2) sc_law_draws.nd rfl (Or.inl rfl) (pe_callB call_abs (by rfl) T.b_abs (by decide +kernel) (pa_cons (pe_callTy call_intI (by rfl) T.b_int (by decide +kernel) (pa_cons (pv 0) pa_nil)) pa_nil))) 
    (pss_cons (ps_set (i := 3) sc_law_draws.nd rfl (Or.inl rfl) (pe_cmpR op_ge (pv 2) (pe_op op_pow pe_int pe_int) (nomark _))) 
    (pss_cons (ps_set (i := 4) sc_law_draws.nd rfl (Or.inl rfl) (pe_lst pa_nil)) 
    (pss_cons (ps_for PassesOwn.never rfl (pi_range1 (by rfl) T.b_range (pa_cons pe_int pa_nil)) (pg_name (i := 5) sc_law_draws.nd rfl (Or.inl rfl)) 
      (pss_one (ps_if (PW.pt (pw_and (pt_cmpR op_lt (pv 5) (pv 1) (nomark _)) (pw_and1 (pt_val (pv 3))))) 
        (pss_cons (ps_expr (pe_bm PySem.F.plainAttrs_list PySem.F.slot_list_append PySem.F.type_list_append mt_append (pv 4) (pa_cons (pe_op op_mod (pv 2) pe_int) pa_nil))) 
        (pss_one (ps_set (i := 2) sc_law_draws.nd rfl (Or.inl rfl) (pe_op op_fdiv (pv 2) pe_int)))) 
        (pss_one (ps_if (pt_cmpR op_lt (pv 5) (pv 1) (nomark _)) 
          (pss_cons (ps_set (i := 6) sc_law_draws.nd rfl (Or.inl rfl) (pe_op op_mod (pe_op op_add (pe_op op_add (pe_op op_mulX (pe_callTy call_intI (by rfl) T.b_int (by decide +kernel) (pa_cons (pv 2) pa_nil)) pe_int) (pe_op op_mulX (pv 5) pe_int)) pe_int) pe_int)) 
          (pss_cons (ps_set (i := 6) sc_law_draws.nd rfl (Or.inl rfl) (pe_op op_mod (pe_op op_add (pe_op op_add (pe_op op_mulX (pe_callTy call_intI (by rfl) T.b_int (by decide +kernel) (pa_cons (pv 6) pa_nil)) (pe_callTy call_intI (by rfl) T.b_int (by decide +kernel) (pa_cons (pv 6) pa_nil))) (pe_op op_mulX (pv 5) pe_int)) pe_int) pe_int)) 
          (pss_one (ps_expr (pe_bm PySem.F.plainAttrs_list PySem.F.slot_list_append PySem.F.type_list_append mt_append (pv 4) (pa_cons (pe_op op_mod (pe_callTy call_intI (by rfl) T.b_int (by decide +kernel) (pa_cons (pv 6) pa_nil)) pe_int) pa_nil)))))) pss_nil))))) 
    (pss_one (ps_ret (pv 4))))))), ?_⟩
    walk_at "wp"
    refine ⟨⟨by decide, by decide, by decide⟩, Nat.zero_le _, fun p np => ⟨by decide, by decide, ?_⟩⟩
    obtain ⟨Pv, hPv⟩ : ∃ Pv : Nat → St → Hp → Prop, ∀ i σ H', Pv i σ H' ↔ ∃ (num : Int) (g : Bool) (ds : List Int) (v5 v6 : Option V), σ = [some (V.int c), some (V.int 12), some (V.int num), some (V.bl g), some (V.ref p), v5, v6] ∧ (g = false → 0 ≤ num ∧ num < 1000000000000000000) ∧
      Same H H' ∧ H' p = some (.lst (ds.map V.int)) ∧ ds.length = min i 12 := ⟨_, fun _ _ _ => Iff.rfl⟩
    have e18 : (10 : Int) ^ Int.toNat 18 = 1000000000000000000 := by decide
    refine loop_it (walk_range0 (n := 60)) Pv ((hPv _ _ _).mpr ⟨_, _, [], none, none, rfl, fun hg => ?_, same_upd np, upd_same, rfl⟩) (fun _ _ _ _ _ => trivial) ?_ ?_
    · rw [e18, decide_eq_false_iff_not] at hg
      constructor
      · split <;> omega
      · omega
    · intro i x σ H1 H2 hi pw y
      obtain ⟨num, g, ds, v5, v6, rfl, hg, s1, e1, hl⟩ := (hPv _ _ _).mp pw
      obtain ⟨rfl, rfl⟩ := y
      walk_at "wp"
      have sz : ∀ z : V, (ds.map V.int).length < sizeLine := fun _ => small1000 (by rw [List.length_map]; omega)
      have ty : tyV K "list" (V.ref p) H2 := .inl ⟨rfl, _, SqL.of e1⟩
      have fin : ∀ (num' : Int) (v v5' v6' : Option V) (z : Int), i < 12 → (g = false → 0 ≤ num' ∧ num' < 1000000000000000000) → Pv (i + 1) [some (V.int c), some (V.int 12), some (V.int num'), some (V.bl g), some (V.ref p), v5', v6'] (upd H2 p (.lst (ds.map V.int ++ [V.int z]))) := fun num' v v5' v6' z h12 hg' =>
        (hPv _ _ _).mpr ⟨num', g, ds ++ [z], v5', v6', rfl, hg', fun b o e => by rw [upd_ne (ne_of_none e np)]; exact s1 _ _ e, by rw [upd_same, List.map_append]; rfl, by rw [List.length_append, List.length_singleton]; omega⟩
      by_cases h12 : i < 12
      · rw [show decide (((i : Nat) : Int) < 12) = true from decide_eq_true (by omega)]
        cases g with
        | true =>
          walk_at "wp"
          exact ⟨ty, by decide, _, e1, sz .non, ⟨by decide, by decide⟩, fin _ none _ _ _ h12 (fun z => by cases z)⟩
        | false =>
          walk_at "wp"
          have hn := hg rfl
          have cm : ∀ x y : Int, -18446744073709551616 < x → x < 18446744073709551616 → -18446744073709551616 < y → y < 18446744073709551616 → CMulX x y := fun x y a b c d => ⟨64, 64, by unfold Sz; show x.natAbs < 18446744073709551616; omega, by unfold Sz; show y.natAbs < 18446744073709551616; omega, by decide⟩
          refine ⟨cm _ _ (by omega) (by omega) (by decide) (by decide), cm _ _ (by omega) (by omega) (by decide) (by decide), by decide, ?_⟩
          have m0 := Int.emod_nonneg (num * 48271 + (i : Int) * 69621 + 11) (show (2147483647 : Int) ≠ 0 by decide)
          have m1 := Int.emod_lt_of_pos (num * 48271 + (i : Int) * 69621 + 11) (show (0 : Int) < 2147483647 by decide)
          refine ⟨cm _ _ (by omega) (by omega) (by omega) (by omega), cm _ _ (by omega) (by omega) (by decide) (by decide), by decide, ty, by decide, _, e1, sz .non, ?_⟩
          exact fin _ none _ _ _ h12 (fun _ => hn)
      · rw [show decide (((i : Nat) : Int) < 12) = false from decide_eq_false (by omega)]
        walk_at "wp"
        exact (hPv _ _ _).mpr ⟨num, g, ds, _, v6, rfl, hg, s1, e1, by omega⟩
    · intro σ H1 pw
      obtain ⟨num, g, ds, v5, v6, rfl, hg, s1, e1, hl⟩ := (hPv _ _ _).mp pw
      walk_at "wp"
      exact q _ _ ds s1 e1 np (by omega)
theorem ok_law_stream (T : Txt K mg A) : FnOk P w K mg base CX0 2 A.f_law_stream A.d_law_stream ["script", "first", "count"] (sp_law_stream K) := by
  have G_law_draws := ok_law_draws (P := P) (w := w) (base := base) T
  have G_law_cell := ok_law_cell (P := P) (w := w) (base := base) T
  refine T.F_law_stream.ok sc_law_stream (fun vs H Q E h => ?_) (fun cdv A' outer s H vs Q E hr h => ?_)
  · obtain ⟨l, ns, first, count, rfl, _⟩ := h
    rfl
  · obtain ⟨l, ns, first, count, rfl, hL, h1, h2, q⟩ := h
    refine ⟨_, (pss_cons (ps_set (i := 3) sc_law_stream.nd rfl (Or.inl rfl) (pe_lst pa_nil)) 
    (pss_cons (ps_for PassesOwn.never rfl (pi_range1 (by rfl) T.b_range (pa_cons (pv 2) pa_nil)) (pg_name (i := 4) sc_law_stream.nd rfl (Or.inl rfl)) 
      (pss_one (ps_expr (pe_bm PySem.F.plainAttrs_list PySem.F.slot_list_extend PySem.F.type_list_extend mt_extend (pv 3) (pa_cons (pe_call G_law_draws hr (by rfl) T.g_law_draws T.F_law_draws.kp T.B_law_draws .nil pass0 (pa_cons (pe_call G_law_cell hr (by rfl) T.g_law_cell T.F_law_cell.kp T.B_law_cell .nil pass0 (pa_cons (pv 0) (pa_cons (pe_op op_add (pv 1) (pv 4)) pa_nil))) (pa_cons pe_int pa_nil))) pa_nil))))) 
    (pss_one (ps_ret (pe_lst (pa_cons (pv 3) (pa_cons (pe_lst (pa_cons pe_int pa_nil)) pa_nil))))))), ?_⟩
    walk_at "wp"
    refine ⟨Nat.zero_le _, fun p np => ⟨by omega, by omega, ?_⟩⟩
    obtain ⟨Pv, hPv⟩ : ∃ Pv : Nat → St → Hp → Prop, ∀ i σ H', Pv i σ H' ↔ ∃ (ds : List Int) (v4 : Option V), σ = [some (V.ref l), some (V.int (first : Int)), some (V.int (count : Int)), some (V.ref p), v4] ∧
      Same H H' ∧ H' p = some (.lst (ds.map V.int)) ∧ ds.length = 12 * i := ⟨_, fun _ _ _ => Iff.rfl⟩
    refine loop_it (walk_range0 (n := count)) Pv ((hPv _ _ _).mpr ⟨[], none, rfl, same_upd np, upd_same, rfl⟩) (fun _ _ _ _ _ => trivial) ?_ ?_
    · intro i x σ H1 H2 hi pw y
      obtain ⟨ds, v4, rfl, s1, e1, hl⟩ := (hPv _ _ _).mp pw
      obtain ⟨rfl, rfl⟩ := y
      walk_at "wp"
      refine ⟨.inl ⟨rfl, _, SqL.of e1⟩, l, ns, first + i, by rw [Int.natCast_add], s1.seq hL, ?_⟩
      refine ⟨_, rfl, fun H3 t ds2 s3 e3 nt h12 => ?_⟩
      have npt : t ≠ p := fun z => by
        rw [z, e1] at nt
        cases nt
      refine ⟨_, rfl, _, s3 _ _ e1, _, e3, ?_, (hPv _ _ _).mpr ⟨ds ++ ds2, _, rfl, fun b o e => ?_, ?_, ?_⟩⟩
      · rw [List.length_map, List.length_map]
        exact Nat.le_of_lt (Nat.lt_of_le_of_lt (show ds.length + ds2.length ≤ 2000 by omega) (by decide))
      · rw [upd_ne (ne_of_none e np)]
        exact s3 _ _ (s1 _ _ e)
      · rw [upd_same, List.map_append]
      · rw [List.length_append]
        omega
    · intro σ H1 pw
      obtain ⟨ds, v4, rfl, s1, e1, hl⟩ := (hPv _ _ _).mp pw
      walk_at "wp"
      refine ⟨by decide, fun p2 n2 => ⟨by decide, fun st n3 => ?_⟩⟩
      have s4 := (same_upd (o := .lst [.int 0]) n2).trans (same_upd (o := .lst [.ref p, .ref p2]) n3)
      have np2 : p ≠ p2 := ne_of_none e1 n2
      have nst : st ≠ p2 := fun z => by
        rw [z, upd_same] at n3
        cases n3
      refine q _ st p p2 (s1.trans s4) ⟨upd_same, ⟨ds, s4 _ _ e1, fun z => ?_⟩, ⟨0, ?_⟩, nst, np2⟩ (s1.free n2)
      · rw [z] at hl
        simp only [List.length_nil] at hl
        omega
      · rw [upd_ne nst.symm, upd_same]
theorem ok_law_next (T : Txt K mg A) : FnOk P w K mg base CX0 1 A.f_law_next A.d_law_next ["stream", "many"] (sp_law_next K) := by
  refine T.F_law_next.ok sc_law_next (fun vs H Q E h => ?_) (fun cdv A' outer s H vs Q E hr h => ?_)
  · obtain ⟨st, d, p, m, rfl, _⟩ := h
    rfl
  · obtain ⟨st, d, p, m, rfl, hM, hm, q⟩ := h
    refine ⟨_, (pss_cons (ps_set (i := 2) sc_law_next.nd rfl (Or.inl rfl) (pe_ix ix_list (pv 0) pe_int (fun _ _ => rfl))) 
    (pss_cons (ps_set (i := 3) sc_law_next.nd rfl (Or.inl rfl) (pe_ix ix_list (pv 0) pe_int (fun _ _ => rfl))) 
    (pss_cons (ps_set (i := 4) sc_law_next.nd rfl (Or.inl rfl) (pe_op op_mod (pe_callTy call_intI (by rfl) T.b_int (by decide +kernel) (pa_cons (pe_ix ix_list (pv 2) (pe_op op_mod (pe_callTy call_intI (by rfl) T.b_int (by decide +kernel) (pa_cons (pe_ix ix_list (pv 3) pe_int (fun _ _ => rfl)) pa_nil)) (pe_callB call_len_seq (by rfl) T.b_len (by decide +kernel) (pa_cons (pv 2) pa_nil))) (fun _ _ => rfl)) pa_nil)) (pv 1))) 
    (pss_cons (ps_asg (pe_op op_add (pe_ix ix_list (pv 3) pe_int (fun _ _ => rfl)) pe_int) (pg_sub (pv 3) pe_int set_list)) 
    (pss_one (ps_ret (pv 4))))))), ?_⟩
    walk_at "wp"
    obtain ⟨ds, ed, hd⟩ := hM.dg
    obtain ⟨i, ep⟩ := hM.pl
    have sS := SqL.of (K := K) hM.at_
    refine ⟨_, sS, _, rfl, _, sS, _, rfl, ?_⟩
    walk_at "wp"
    have hl : 0 < ds.length := by
      cases ds with
      | nil => exact absurd rfl hd
      | cons x r => exact Nat.succ_pos _
    have hl2 : (0 : Int) < ((ds.map V.int).length : Int) := by rw [List.length_map]; omega
    obtain ⟨x, ex, hx⟩ := atI_in (xs := ds.map V.int) (i := i % ((ds.map V.int).length : Int)) (Int.emod_nonneg _ (by omega)) (Int.emod_lt_of_pos _ hl2)
    obtain ⟨z, _, rfl⟩ := List.mem_map.mp hx
    refine ⟨_, SqL.of ep, _, rfl, _, rfl, _, .inl (SqL.of ed), hl2, _, SqL.of ed, _, ex, _, rfl, hm, _, SqL.of ep, _, rfl, _, rfl, _, ep, _, rfl, ?_⟩
    exact q _ _ ⟨fun b o n e => by rw [upd_ne n]; exact e, _, upd_same⟩ (Int.emod_nonneg _ (by omega)) (Int.emod_lt_of_pos _ hm)
/-- equal data, n levels deep -/
inductive SameD (K : PySem.W.Frag) (H : Hp) : Nat → V → V → Prop where
  | str (n : Nat) (z : Str) : SameD K H n (.str z) (.str z)
  | int (n : Nat) (i : Int) : SameD K H n (.int i) (.int i)
  | tup (n : Nat) (a b : Addr) (xs ys : List V) : SqT K H a xs → SqT K H b ys → xs.length = ys.length → ys.length ≤ 1000 → (∀ (i : Nat) x y, xs[i]? = some x → ys[i]? = some y → SameD K H n x y) → SameD K H (n + 1) (.ref a) (.ref b)
  | lst (n : Nat) (a b : Addr) (xs ys : List V) : SqL K H a xs → SqL K H b ys → xs.length = ys.length → ys.length ≤ 1000 → (∀ (i : Nat) x y, xs[i]? = some x → ys[i]? = some y → SameD K H n x y) → SameD K H (n + 1) (.ref a) (.ref b)
def sp_law_is_integer (K : PySem.W.Frag) : Sp := fun vs H Q _ => ∃ i : Int, vs = [.int i] ∧ Q (.bl true) H
def sp_law_same (n : Nat) (K : PySem.W.Frag) : Sp := fun vs H Q _ => ∃ x y : V, vs = [x, y] ∧ SameD K H n x y ∧ Q (.bl true) H
theorem ok_law_is_integer (T : Txt K mg A) : FnOk P w K mg base CX0 1 A.f_law_is_integer A.d_law_is_integer ["actual"] (sp_law_is_integer K) := by
  refine T.F_law_is_integer.ok sc_law_is_integer (fun vs H Q E h => ?_) (fun cdv A' outer s H vs Q E hr h => ?_)
  · obtain ⟨i, rfl, _⟩ := h
    rfl
  · obtain ⟨i, rfl, q⟩ := h
    refine ⟨_, (pss_one (ps_ret (pe_and (pe_callB call_isi (by rfl) T.b_isinstance (by decide +kernel) (pa_cons (pv 0) (pa_cons (pe_bltn (v := .ty "int") (by rfl) T.b_int (by decide +kernel) rfl) pa_nil))) (pe_one (pe_not (pe_callB call_isi (by rfl) T.b_isinstance (by decide +kernel) (pa_cons (pv 0) (pa_cons (pe_bltn (v := .ty "bool") (by rfl) T.b_bool (by decide +kernel) rfl) pa_nil)))))))), ?_⟩
    walk_at "wp"
    refine isi ty_int (r := true) (by decide +kernel) ?_
    walk_at "wp"
    refine isi ty_int (r := false) (by decide +kernel) ?_
    walk_at "wp"
    exact q
theorem ok_law_same_s (T : Txt K mg A) (lv : Nat) (hlv : 1 ≤ lv) (n : Nat) (G_law_same : ∀ m, n = m + 1 → FnOk P w K mg base CX0 lv A.f_law_same A.d_law_same ["actual", "expected"] (sp_law_same m K)) : FnOk P w K mg base CX0 (lv + 1) A.f_law_same A.d_law_same ["actual", "expected"] (sp_law_same n K) := by
  have G_law_is_integer := ok_law_is_integer (P := P) (w := w) (base := base) T
  refine T.F_law_same.ok sc_law_same (fun vs H Q E h => ?_) (fun cdv A' outer s H vs Q E hr h => ?_)
  · obtain ⟨x, y, rfl, _⟩ := h
    rfl
  · obtain ⟨x, y, rfl, hS, q⟩ := h
    cases n with
    | zero =>
      refine ⟨_, (pss_cons (ps_if (pt_cmpR op_isN (pv 1) pe_non (nomark _)) 
      (pss_one (ps_ret (pe_cmpR op_isN (pv 0) pe_non (nomark _)))) pss_nil) 
    (pss_cons (ps_if (pt_val (pe_callB call_isi (by rfl) T.b_isinstance (by decide +kernel) (pa_cons (pv 1) (pa_cons (pe_bltn (v := .ty "bool") (by rfl) T.b_bool (by decide +kernel) rfl) pa_nil)))) 
      (pss_one (ps_ret (pe_and (pe_callB call_isi (by rfl) T.b_isinstance (by decide +kernel) (pa_cons (pv 0) (pa_cons (pe_bltn (v := .ty "bool") (by rfl) T.b_bool (by decide +kernel) rfl) pa_nil))) (pe_one (pe_cmpR op_eq (pv 0) (pv 1) (nomark _)))))) pss_nil) 
    (pss_cons (ps_if (pt_val (pe_callB call_isi (by rfl) T.b_isinstance (by decide +kernel) (pa_cons (pv 1) (pa_cons (pe_bltn (v := .ty "int") (by rfl) T.b_int (by decide +kernel) rfl) pa_nil)))) 
      (pss_one (ps_ret (pe_and (pe_call G_law_is_integer (hr.mono (by omega)) (by rfl) T.g_law_is_integer T.F_law_is_integer.kp T.B_law_is_integer .nil pass0 (pa_cons (pv 0) pa_nil)) (pe_one (pe_cmpR op_eq (pv 0) (pv 1) (nomark _)))))) pss_nil) 
    (pss_cons (ps_if (pt_val (pe_callB call_isi (by rfl) T.b_isinstance (by decide +kernel) (pa_cons (pv 1) (pa_cons (pe_bltn (v := .ty "str") (by rfl) T.b_str (by decide +kernel) rfl) pa_nil)))) 
      (pss_one (ps_ret (pe_and (pe_callB call_isi (by rfl) T.b_isinstance (by decide +kernel) (pa_cons (pv 0) (pa_cons (pe_bltn (v := .ty "str") (by rfl) T.b_str (by decide +kernel) rfl) pa_nil))) (pe_one (pe_cmpR op_eq (pv 0) (pv 1) (nomark _)))))) pss_nil) 
    (pss_cons ps_never 
    (pss_cons ps_never 
    (pss_cons ps_never 
    (pss_cons ps_never 
    (pss_one (ps_ret pe_bl)))))))))), ?_⟩
      cases hS with
      | str z =>
        walk_at "wp"
        refine isi ty_str (r := false) (by decide +kernel) ?_
        walk_at "wp"
        refine isi ty_str (r := false) (by decide +kernel) ?_
        walk_at "wp"
        refine isi ty_str (r := true) (by decide +kernel) ?_
        walk_at "wp"
        refine isi ty_str (r := true) (by decide +kernel) ?_
        walk_at "wp"
        exact q
      | int i =>
        walk_at "wp"
        refine isi ty_int (r := false) (by decide +kernel) ?_
        walk_at "wp"
        refine isi ty_int (r := true) (by decide +kernel) ?_
        walk_at "wp"
        refine ⟨_, rfl, ?_⟩
        walk_at "wp"
        exact q
    | succ m =>
      have G_law_same := G_law_same m rfl
      refine ⟨_, (pss_cons (ps_if (pt_cmpR op_isN (pv 1) pe_non (nomark _)) 
      (pss_one (ps_ret (pe_cmpR op_isN (pv 0) pe_non (nomark _)))) pss_nil) 
    (pss_cons (ps_if (pt_val (pe_callB call_isi (by rfl) T.b_isinstance (by decide +kernel) (pa_cons (pv 1) (pa_cons (pe_bltn (v := .ty "bool") (by rfl) T.b_bool (by decide +kernel) rfl) pa_nil)))) 
      (pss_one (ps_ret (pe_and (pe_callB call_isi (by rfl) T.b_isinstance (by decide +kernel) (pa_cons (pv 0) (pa_cons (pe_bltn (v := .ty "bool") (by rfl) T.b_bool (by decide +kernel) rfl) pa_nil))) (pe_one (pe_cmpR op_eq (pv 0) (pv 1) (nomark _)))))) pss_nil) 
    (pss_cons (ps_if (pt_val (pe_callB call_isi (by rfl) T.b_isinstance (by decide +kernel) (pa_cons (pv 1) (pa_cons (pe_bltn (v := .ty "int") (by rfl) T.b_int (by decide +kernel) rfl) pa_nil)))) 
      (pss_one (ps_ret (pe_and (pe_call G_law_is_integer (hr.mono (by omega)) (by rfl) T.g_law_is_integer T.F_law_is_integer.kp T.B_law_is_integer .nil pass0 (pa_cons (pv 0) pa_nil)) (pe_one (pe_cmpR op_eq (pv 0) (pv 1) (nomark _)))))) pss_nil) 
    (pss_cons (ps_if (pt_val (pe_callB call_isi (by rfl) T.b_isinstance (by decide +kernel) (pa_cons (pv 1) (pa_cons (pe_bltn (v := .ty "str") (by rfl) T.b_str (by decide +kernel) rfl) pa_nil)))) 
      (pss_one (ps_ret (pe_and (pe_callB call_isi (by rfl) T.b_isinstance (by decide +kernel) (pa_cons (pv 0) (pa_cons (pe_bltn (v := .ty "str") (by rfl) T.b_str (by decide +kernel) rfl) pa_nil))) (pe_one (pe_cmpR op_eq (pv 0) (pv 1) (nomark _)))))) pss_nil) 
    (pss_cons (ps_if (PW.pt (pw_and (pt_val (pe_callB call_isi (by rfl) T.b_isinstance (by decide +kernel) (pa_cons (pv 1) (pa_cons (pe_bltn (v := .ty "tuple") (by rfl) T.b_tuple (by decide +kernel) rfl) pa_nil)))) (pw_and1 (pt_not (pt_val (pe_callB call_isi (by rfl) T.b_isinstance (by decide +kernel) (pa_cons (pv 0) (pa_cons (pe_bltn (v := .ty "tuple") (by rfl) T.b_tuple (by decide +kernel) rfl) pa_nil)))))))) 
      (pss_one (ps_ret pe_bl)) pss_nil) 
    (pss_cons (ps_if (PW.pt (pw_and (pt_val (pe_callB call_isi (by rfl) T.b_isinstance (by decide +kernel) (pa_cons (pv 1) (pa_cons (pe_bltn (v := .ty "list") (by rfl) T.b_list (by decide +kernel) rfl) pa_nil)))) (pw_and1 (pt_not (pt_val (pe_callB call_isi (by rfl) T.b_isinstance (by decide +kernel) (pa_cons (pv 0) (pa_cons (pe_bltn (v := .ty "list") (by rfl) T.b_list (by decide +kernel) rfl) pa_nil)))))))) 
      (pss_one (ps_ret pe_bl)) pss_nil) 
    (pss_cons (ps_if (pt_cmpR op_ne (pe_callB call_len_seq (by rfl) T.b_len (by decide +kernel) (pa_cons (pv 0) pa_nil)) (pe_callB call_len_seq (by rfl) T.b_len (by decide +kernel) (pa_cons (pv 1) pa_nil)) (nomark _)) 
      (pss_one (ps_ret pe_bl)) pss_nil) 
    (pss_cons (ps_for PassesOwn.never rfl (pi_range1 (by rfl) T.b_range (pa_cons (pe_callB call_len_seq (by rfl) T.b_len (by decide +kernel) (pa_cons (pv 1) pa_nil)) pa_nil)) (pg_name (i := 2) sc_law_same.nd rfl (Or.inl rfl)) 
      (pss_one (ps_if (pt_not (pt_val (pe_call G_law_same hr (by rfl) T.g_law_same T.F_law_same.kp T.B_law_same .nil pass0 (pa_cons (pe_ix ix_seq (pv 0) (pv 2) (fun _ _ => rfl)) (pa_cons (pe_ix ix_seq (pv 1) (pv 2) (fun _ _ => rfl)) pa_nil))))) 
        (pss_one (ps_ret pe_bl)) pss_nil))) 
    (pss_one (ps_ret pe_bl)))))))))), ?_⟩
      cases hS with
      | str z =>
        walk_at "wp"
        refine isi ty_str (r := false) (by decide +kernel) ?_
        walk_at "wp"
        refine isi ty_str (r := false) (by decide +kernel) ?_
        walk_at "wp"
        refine isi ty_str (r := true) (by decide +kernel) ?_
        walk_at "wp"
        refine isi ty_str (r := true) (by decide +kernel) ?_
        walk_at "wp"
        exact q
      | int i =>
        walk_at "wp"
        refine isi ty_int (r := false) (by decide +kernel) ?_
        walk_at "wp"
        refine isi ty_int (r := true) (by decide +kernel) ?_
        walk_at "wp"
        refine ⟨_, rfl, ?_⟩
        walk_at "wp"
        exact q
      | tup _ a b xs ys hx hy hl hn hs =>
        walk_at "wp"
        refine isi (ty_tup hy) (r := false) (by decide +kernel) ?_
        walk_at "wp"
        refine isi (ty_tup hy) (r := false) (by decide +kernel) ?_
        walk_at "wp"
        refine isi (ty_tup hy) (r := false) (by decide +kernel) ?_
        walk_at "wp"
        refine isi (ty_tup hy) (r := true) (by decide +kernel) ?_
        walk_at "wp"
        refine isi (ty_tup hx) (r := true) (by decide +kernel) ?_
        walk_at "wp"
        refine isi (ty_tup hy) (r := false) (by decide +kernel) ?_
        walk_at "wp"
        refine ⟨xs, .inr hx, ys, .inr hy, ?_⟩
        rw [if_neg (by simp [hl])]
        refine ⟨ys, .inr hy, by omega, by omega, ?_⟩
        refine loop_it (walk_range0 (n := ys.length)) (fun i σ H' => H' = H ∧ ∃ v, σ = [some (V.ref a), some (V.ref b), v]) ⟨rfl, _, rfl⟩ (fun _ _ _ _ _ => trivial) ?_ ?_
        · rintro i x σ H1 H2 hi ⟨rfl, v, rfl⟩ ⟨rfl, rfl⟩
          have ex : xs[i]? = some xs[i] := List.getElem?_eq_getElem (by omega)
          have ey : ys[i]? = some ys[i] := List.getElem?_eq_getElem hi
          walk_at "wp"
          refine .inr (.inl ⟨a, xs, _, _, rfl, rfl, hx, atI_nat ex, ?_⟩)
          refine .inr (.inl ⟨b, ys, _, _, rfl, rfl, hy, atI_nat ey, ?_⟩)
          refine ⟨_, _, rfl, hs i _ _ ex ey, ?_⟩
          walk_at "wp"
          exact ⟨_, rfl⟩
        · rintro σ H1 ⟨rfl, v, rfl⟩
          walk_at "wp"
          exact q
      | lst _ a b xs ys hx hy hl hn hs =>
        walk_at "wp"
        refine isi (ty_lst hy) (r := false) (by decide +kernel) ?_
        walk_at "wp"
        refine isi (ty_lst hy) (r := false) (by decide +kernel) ?_
        walk_at "wp"
        refine isi (ty_lst hy) (r := false) (by decide +kernel) ?_
        walk_at "wp"
        refine isi (ty_lst hy) (r := false) (by decide +kernel) ?_
        walk_at "wp"
        refine isi (ty_lst hy) (r := true) (by decide +kernel) ?_
        walk_at "wp"
        refine isi (ty_lst hx) (r := true) (by decide +kernel) ?_
        walk_at "wp"
        refine ⟨xs, .inl hx, ys, .inl hy, ?_⟩
        rw [if_neg (by simp [hl])]
        refine ⟨ys, .inl hy, by omega, by omega, ?_⟩
        refine loop_it (walk_range0 (n := ys.length)) (fun i σ H' => H' = H ∧ ∃ v, σ = [some (V.ref a), some (V.ref b), v]) ⟨rfl, _, rfl⟩ (fun _ _ _ _ _ => trivial) ?_ ?_
        · rintro i x σ H1 H2 hi ⟨rfl, v, rfl⟩ ⟨rfl, rfl⟩
          have ex : xs[i]? = some xs[i] := List.getElem?_eq_getElem (by omega)
          have ey : ys[i]? = some ys[i] := List.getElem?_eq_getElem hi
          walk_at "wp"
          refine .inl ⟨a, xs, _, _, rfl, rfl, hx, atI_nat ex, ?_⟩
          refine .inl ⟨b, ys, _, _, rfl, rfl, hy, atI_nat ey, ?_⟩
          refine ⟨_, _, rfl, hs i _ _ ex ey, ?_⟩
          walk_at "wp"
          exact ⟨_, rfl⟩
        · rintro σ H1 ⟨rfl, v, rfl⟩
          walk_at "wp"
          exact q
theorem ok_law_same_n (T : Txt K mg A) : ∀ n : Nat, FnOk P w K mg base CX0 (n + 2) A.f_law_same A.d_law_same ["actual", "expected"] (sp_law_same n K)
  | 0 => ok_law_same_s T 1 (by decide) 0 fun m h => by cases h
  | n + 1 => ok_law_same_s T (n + 2) (by omega) (n + 1) fun m h => by cases h; exact ok_law_same_n T n
def sp_law_expression (K : PySem.W.Frag) : Sp := fun vs H Q _ => ∃ (st d p : Addr) (n : Nat) (s c : Int), vs = [.ref st, .int (n : Int), .int s, .int c] ∧ Stm H st d p ∧ n ≤ 10 ∧ 0 ≤ s ∧ s ≤ 100 ∧ 0 ≤ c ∧ c ≤ 100 ∧
  ∀ H' t x, Stp p H H' → ExT K H' t x → x.1.length = n → (∀ z ∈ x.1, -s ≤ z ∧ z ≤ s) → -c ≤ x.2 → x.2 ≤ c → Q (.ref t) H'
def sp_law_gcd (K : PySem.W.Frag) : Sp := fun vs H Q _ => ∃ (a : Addr) (c : List Int), vs = [.ref a] ∧ SqT K H a (c.map V.int) ∧ (∀ x ∈ c, Sz 100 x) ∧ ∀ H', Same H H' → Q (.int ((gl 0 c : Nat) : Int)) H'
def sp_law_reduced (K : PySem.W.Frag) : Sp := fun vs H Q _ => ∃ (a : Addr) (x : Ex) (n : Nat), vs = [.ref a] ∧ ExT K H a x ∧ ES 100 n x ∧ n ≤ 90 ∧ ∀ H' t, Same H H' → ExT K H' t (redE x) → Q (.ref t) H'
def sp_law_least (K : PySem.W.Frag) : Sp := fun vs H Q _ => ∃ (l : Addr) (rs : List (Addr × Ex)) (n : Nat), vs = [.ref l] ∧ SqL K H l (rsv rs) ∧ RsAll (ExT K) H rs ∧ (∀ r ∈ rs, ES 100 n r.2) ∧ n ≤ 90 ∧ rs.length ≤ 800 ∧
  ∀ H' p ss, Same H H' → H' p = some (.lst (rsv ss)) → RsAll (ExT K) H' ss → ss.map (·.2) = leastE (rs.map (·.2)) → Q (.ref p) H'
/-! ### tuples of ints as data -/
theorem dp_ints {K : PySem.W.Frag} {H : Hp} : ∀ xs : List Int, DpAll K H (xs.map V.int) (xs.map PyData.int)
  | [] => .nil
  | x :: r => .cons (.int x) (dp_ints r)
theorem lay_ints : ∀ xs : List Int, PyData.canLayAll0 (xs.map PyData.int) = true
  | [] => rfl
  | x :: r => by rw [List.map_cons, PyData.canLayAll0, lay_ints r]; rfl
theorem depth_ints : ∀ xs : List Int, PyData.depthAll (xs.map PyData.int) = 0
  | [] => rfl
  | x :: r => by rw [List.map_cons, PyData.depthAll, depth_ints r]; rfl
def tupD (e : List Int) : PyData := .tuple (e.map PyData.int)
theorem dp_tup {K : PySem.W.Frag} {H : Hp} {a : Addr} {e : List Int} (h : SqT K H a (e.map V.int)) : Dp K H (.ref a) (tupD e) := .tup h (dp_ints e)
theorem shaped_tup (e : List Int) : SeqAt.shaped (tupD e) = true := by
  unfold SeqAt.shaped tupD
  rw [PyData.canLay0, lay_ints, PyData.depth, depth_ints]
  rfl
theorem eqv_ints : ∀ e f : List Int, PyData.eqvAll (e.map PyData.int) (f.map PyData.int) = decide (e = f)
  | [], [] => rfl
  | [], _ :: _ => rfl
  | _ :: _, [] => rfl
  | x :: e, y :: f => by
    rw [List.map_cons, List.map_cons, PyData.eqvAll, eqv_ints e f, PyData.eqv]
    by_cases h : x = y
    · subst h
      by_cases h2 : e = f
      · subst h2
        simp
      · simp [h2]
    · simp [h]
theorem eqv_tup (e f : List Int) : PyData.eqv (tupD e) (tupD f) = decide (e = f) := by rw [tupD, tupD, PyData.eqv, eqv_ints]
/-! ### conditions as data -/
def exD (x : Ex) : PyData := tupD x.e
def exsD (l : List Ex) : PyData := .list (l.map exD)
theorem dp_exs {K : PySem.W.Frag} {H : Hp} : ∀ {rs : List (Addr × Ex)}, RsAll (ExT K) H rs → DpAll K H (rsv rs) ((rs.map (·.2)).map exD)
  | [], _ => .nil
  | r :: rs, h => .cons (dp_tup (h r List.mem_cons_self)) (dp_exs fun x hx => h x (List.mem_cons_of_mem _ hx))
theorem dp_exl {K : PySem.W.Frag} {H : Hp} {l : Addr} {rs : List (Addr × Ex)} (hl : SqL K H l (rsv rs)) (h : RsAll (ExT K) H rs) : Dp K H (.ref l) (exsD (rs.map (·.2))) := .lst hl (dp_exs h)
theorem lay_exs : ∀ l : List Ex, PyData.canLayAll0 (l.map exD) = true
  | [] => rfl
  | x :: r => by
    rw [List.map_cons, PyData.canLayAll0, lay_exs r, exD, tupD, PyData.canLay0, lay_ints]
    rfl
theorem depth_exs : ∀ l : List Ex, PyData.depthAll (l.map exD) ≤ 1
  | [] => by decide
  | x :: r => by
    rw [List.map_cons, PyData.depthAll, exD, tupD, PyData.depth, depth_ints]
    have := depth_exs r
    omega
theorem shaped_exs (l : List Ex) : SeqAt.shaped (exsD l) = true := by
  unfold SeqAt.shaped exsD
  rw [PyData.canLay0, lay_exs, PyData.depth, decide_eq_true (by have := depth_exs l; omega)]
  rfl
theorem lay_exsD (l : List Ex) : (exsD l).canLay0 = true := by rw [exsD, PyData.canLay0, lay_exs]
/-! ### the places of a condition's coefficients -/
theorem idx_head (u : List Int) : ∀ l : List Ex, ((List.range l.length).filter fun i => decide ((l.getD i ([], 0)).1 = u)).head? = fndE u l
  | [] => rfl
  | f :: r => by
    rw [List.length_cons, List.range_succ_eq_map, List.filter_cons, fndE]
    have ih := idx_head u r
    by_cases h : f.1 = u
    · rw [if_pos (decide_eq_true (by exact h)), if_pos h]
      rfl
    · rw [if_neg (by rw [decide_eq_true_eq]; exact h), if_neg h, List.filter_map, List.head?_map, ← ih]
      rfl
theorem sameD_ints {K : PySem.W.Frag} {H : Hp} {a b : Addr} {e : List Int} {n : Nat} (ha : SqT K H a (e.map V.int)) (hb : SqT K H b (e.map V.int)) (hl : e.length ≤ 1000) : SameD K H (n + 1) (.ref a) (.ref b) :=
  .tup n a b _ _ ha hb rfl (by rw [List.length_map]; exact hl) fun i x y ex ey => by
    cases ex.symm.trans ey
    rw [List.getElem?_map] at ex
    cases hq : e[i]? with
    | none => rw [hq] at ex; cases ex
    | some z => rw [hq] at ex; cases ex; exact .int n z
theorem sameD_exs {K : PySem.W.Frag} {H : Hp} {a b : Addr} {rs ss : List (Addr × Ex)} {n : Nat} (ha : SqL K H a (rsv rs)) (hb : SqL K H b (rsv ss)) (hr : RsAll (ExT K) H rs) (hs : RsAll (ExT K) H ss) (e : rs.map (·.2) = ss.map (·.2)) (hl : ss.length ≤ 1000) (hz : ∀ r ∈ rs, r.2.e.length ≤ 1000) : SameD K H (n + 2) (.ref a) (.ref b) := by
  have hlen : rs.length = ss.length := by
    have := congrArg List.length e
    rwa [List.length_map, List.length_map] at this
  refine .lst (n + 1) a b _ _ ha hb (by rw [rsv, rsv, List.length_map, List.length_map, hlen]) (by rw [rsv, List.length_map]; exact hl) fun i x y ex ey => ?_
  rw [rsv, List.getElem?_map] at ex ey
  cases hx : rs[i]? with
  | none => rw [hx] at ex; cases ex
  | some r =>
    cases hy : ss[i]? with
    | none => rw [hy] at ey; cases ey
    | some s =>
      rw [hx] at ex
      rw [hy] at ey
      cases ex
      cases ey
      have e2 : (rs.map (·.2))[i]? = (ss.map (·.2))[i]? := by rw [e]
      rw [List.getElem?_map, List.getElem?_map, hx, hy] at e2
      have e3 : r.2 = s.2 := Option.some.inj e2
      have h1 := hr r (List.mem_of_getElem? hx)
      have h2 := hs s (List.mem_of_getElem? hy)
      unfold ExT at h1 h2
      rw [← e3] at h2
      exact sameD_ints h1 h2 (hz r (List.mem_of_getElem? hx))
theorem ok_law_expression (T : Txt K mg A) : FnOk P w K mg base CX0 2 A.f_law_expression A.d_law_expression ["stream", "count", "spread", "constant"] (sp_law_expression K) := by
  have G_law_next := ok_law_next (P := P) (w := w) (base := base) T
  refine T.F_law_expression.ok sc_law_expression (fun vs H Q E h => ?_) (fun cdv A' outer s H vs Q E hr h => ?_)
  · obtain ⟨st, d, p, n, s, c, rfl, _⟩ := h
    rfl
  · obtain ⟨st, d, p, n, s, c, rfl, hM, hn, hs0, hs1, hc0, hc1, q⟩ := h
    refine ⟨_, (pss_cons (ps_setLc (i := 4) (own := [("k", 5)]) (by rfl) sc_law_expression.nd rfl rfl (sw_true rfl rfl rfl (by decide +kernel)) (pi_range1 (by rfl) T.b_range (pa_cons (pv 1) pa_nil)) (blkOk_by (own := [("k", 5)]) (N := ["stream", "count", "spread", "constant", "numbers", "k"]) (sc := defScope s_law_expression) (by decide +kernel)) (fun _ _ _ _ _ => (pg_name (i := 5) sc_law_expression.nd rfl (Or.inl rfl) (Or.inr rfl))) (fun _ _ _ _ _ => pts_nil) (fun _ _ _ _ _ => (pe_op op_sub (pe_call G_law_next hr (by rfl) T.g_law_next T.F_law_next.kp T.B_law_next .nil pass0 (pa_cons (pv 0) (pa_cons (pe_op op_add (pe_op op_mulX pe_int (pv 2)) pe_int) pa_nil))) (pv 2)))) 
    (pss_cons (ps_expr (pe_bm PySem.F.plainAttrs_list PySem.F.slot_list_append PySem.F.type_list_append mt_append (pv 4) (pa_cons (pe_op op_sub (pe_call G_law_next hr (by rfl) T.g_law_next T.F_law_next.kp T.B_law_next .nil pass0 (pa_cons (pv 0) (pa_cons (pe_op op_add (pe_op op_mulX pe_int (pv 3)) pe_int) pa_nil))) (pv 3)) pa_nil))) 
    (pss_one (ps_ret (pe_callTy call_tuple_of (by rfl) T.b_tuple (by decide +kernel) (pa_cons (pv 4) pa_nil)))))), ?_⟩
    walk_at "wp"
    have szs : ∀ z : Int, 0 ≤ z → z ≤ 100 → CMulX 2 z := fun z z0 z1 => ⟨2, 7, by unfold Sz; decide, by unfold Sz; show z.natAbs < 128; omega, by decide⟩
    refine ⟨by omega, by omega, fun D hD => ?_⟩
    obtain ⟨i0, ep0⟩ := hM.pl
    have nDp : D ≠ p := fun z => by rw [z, ep0] at hD; cases hD
    obtain ⟨Pv, hPv⟩ : ∃ Pv : Nat → Hp → Prop, ∀ i H', Pv i H' ↔ Stp p H H' ∧ ∃ zs : List Int, H' D = some (.lst (zs.map V.int)) ∧ zs.length = i ∧ ∀ z ∈ zs, -s ≤ z ∧ z ≤ s := ⟨_, fun _ _ => Iff.rfl⟩
    refine loopc_it (walk_range0 (n := n)) Pv ((hPv _ _).mpr ⟨hM.same (same_upd hD), [], upd_same, rfl, fun _ h => by cases h⟩) (fun _ _ _ _ => trivial) ?_ ?_
    · intro i x H2 H3 hi pw y
      obtain ⟨s2, zs, ez, hl, hz⟩ := (hPv _ _).mp pw
      obtain ⟨rfl, rfl⟩ := y
      walk_at "wp"
      refine ⟨szs s hs0 hs1, st, d, p, 2 * s + 1, rfl, hM.step s2, by omega, fun H4 u s4 u0 u1 => ?_⟩
      refine ⟨_, rfl, zs.map V.int, s4.keep _ _ nDp ez, small1000 (by rw [List.length_map]; omega), (hPv _ _).mpr ⟨(s2.trans s4).upd hD nDp, zs ++ [u - s], ?_, ?_, ?_⟩⟩
      · rw [upd_same, List.map_append]
        rfl
      · rw [List.length_append, hl]
        rfl
      · intro z hz'
        rcases List.mem_append.mp hz' with h | h
        · exact hz z h
        · rw [List.mem_singleton.mp h]
          omega
    · intro H2 pw
      obtain ⟨s2, zs, ez, hl, hz⟩ := (hPv _ _).mp pw
      refine ⟨.inl ⟨rfl, _, SqL.of ez⟩, szs c hc0 hc1, st, d, p, 2 * c + 1, rfl, hM.step s2, by omega, fun H3 u s3 u0 u1 => ?_⟩
      refine ⟨_, rfl, _, s3.keep _ _ nDp ez, small1000 (by rw [List.length_map]; omega), _, .inl ⟨SqL.of upd_same, fun t nt => ?_⟩⟩
      refine q _ t (zs, u - c) (((s2.trans s3).upd hD nDp).same (same_upd nt)) ?_ hl hz (by show -c ≤ u - c; omega) (by show u - c ≤ c; omega)
      unfold ExT
      rw [ex_list]
      exact SqT.of upd_same
theorem ok_law_gcd (T : Txt K mg A) : FnOk P w K mg base CX0 1 A.f_law_gcd A.d_law_gcd ["numbers"] (sp_law_gcd K) := by
  refine T.F_law_gcd.ok sc_law_gcd (fun vs H Q E h => ?_) (fun cdv A' outer s H vs Q E hr h => ?_)
  · obtain ⟨a, c, rfl, _⟩ := h
    rfl
  · obtain ⟨a, c, rfl, hC, hz, q⟩ := h
    refine ⟨_, (pss_cons (ps_set (i := 1) sc_law_gcd.nd rfl (Or.inl rfl) pe_int) 
    (pss_cons (ps_for PassesOwn.never rfl (pi_tup (pv 0)) (pg_name (i := 2) sc_law_gcd.nd rfl (Or.inl rfl)) 
      (pss_cons (ps_set (i := 3) sc_law_gcd.nd rfl (Or.inl rfl) (pe_callB call_abs (by rfl) T.b_abs (by decide +kernel) (pa_cons (pv 2) pa_nil))) 
      (pss_one (ps_for PassesOwn.never rfl (pi_range1 (by rfl) T.b_range (pa_cons pe_int pa_nil)) (pg_name (i := 4) sc_law_gcd.nd rfl (Or.inl rfl)) 
        (pss_one (ps_if (pt_cmpR op_gt (pv 3) pe_int (nomark _)) 
          (pss_one (ps_par (i := 1) (j := 3) (by rfl) sc_law_gcd.nd rfl rfl (by decide) rfl rfl (pa_cons (pv 3) (pa_cons (pe_op op_mod (pe_callTy call_intI (by rfl) T.b_int (by decide +kernel) (pa_cons (pv 1) pa_nil)) (pv 3)) pa_nil)) (by rfl))) pss_nil)))))) 
    (pss_one (ps_ret (pv 1))))), ?_⟩
    walk_at "wp"
    refine ⟨⟨_, hC⟩, ?_⟩
    obtain ⟨Pv, hPv⟩ : ∃ Pv : Nat → St → Hp → Prop, ∀ i σ H', Pv i σ H' ↔ Same H H' ∧ ∃ v2 v3 v4, σ = [some (V.ref a), some (V.int ((gl 0 (c.take i) : Nat) : Int)), v2, v3, v4] := ⟨_, fun _ _ _ => Iff.rfl⟩
    refine loop_it (walk_tup (xs := c.map V.int)) Pv ((hPv _ _ _).mpr ⟨Same.refl _, none, none, none, by rw [List.take_zero]; rfl⟩) (fun i σ H' _ pw => sameT ((hPv _ _ _).mp pw).1 hC) ?_ ?_
    · intro i x σ H1 H2 hi pw y
      obtain ⟨s1, v2, v3, v4, rfl⟩ := (hPv _ _ _).mp pw
      obtain ⟨rfl, e⟩ := yat_at y
      rw [List.length_map] at hi
      rw [List.getElem?_map, List.getElem?_eq_getElem hi] at e
      cases e
      have hx := hz _ (List.getElem_mem hi)
      have eg : gl 0 (c.take (i + 1)) = Nat.gcd (gl 0 (c.take i)) c[i].natAbs := by rw [List.take_succ_eq_append_getElem hi, gl_snoc]
      have fin : ∀ (H' : Hp) (v2 v3 v4 : Option V) (k : Nat), Same H H' → k = Nat.gcd (gl 0 (c.take i)) c[i].natAbs → Pv (i + 1) [some (V.ref a), some (V.int (k : Int)), v2, v3, v4] H' := fun H' v2 v3 v4 k s e => (hPv _ _ _).mpr ⟨s, v2, v3, v4, by rw [eg, e]⟩
      generalize gl 0 (c.take i) = g at *
      generalize c[i] = x at *
      walk_at "wp"
      refine ⟨by decide, by decide, ?_⟩
      have ea : (if x < 0 then -x else x) = ((x.natAbs : Nat) : Int) := by split <;> omega
      obtain ⟨Pw, hPw⟩ : ∃ Pw : Nat → St → Hp → Prop, ∀ k σ H', Pw k σ H' ↔ Same H2 H' ∧ ∃ v4, σ = [some (V.ref a), some (V.int (((eu (g, x.natAbs) k).1 : Nat) : Int)), some (V.int x), some (V.int (((eu (g, x.natAbs) k).2 : Nat) : Int)), v4] := ⟨_, fun _ _ _ => Iff.rfl⟩
      refine loop_it (walk_range0 (n := 400)) Pw ((hPw _ _ _).mpr ⟨Same.refl _, v4, by rw [eu, ea]⟩) (fun _ _ _ _ _ => trivial) ?_ ?_
      · intro k z σ H3 H4 hk pw y
        obtain ⟨s3, v4, rfl⟩ := (hPw _ _ _).mp pw
        obtain ⟨rfl, rfl⟩ := y
        have fin2 : ∀ (H' : Hp) (v4 : Option V) (t : Nat × Nat), Same H2 H' → t = eu1 (eu (g, x.natAbs) k) → Pw (k + 1) [some (V.ref a), some (V.int (t.1 : Int)), some (V.int x), some (V.int (t.2 : Int)), v4] H' := fun H' v4 t s e => (hPw _ _ _).mpr ⟨s, v4, by rw [eu, e]⟩
        generalize eu (g, x.natAbs) k = t at *
        walk_at "wp"
        by_cases h0 : 0 < t.2
        · rw [if_pos (decide_eq_true (by omega))]
          refine ⟨by omega, ?_⟩
          exact fin2 _ _ (t.2, t.1 % t.2) s3 (by rw [eu1, if_pos h0])
        · rw [if_neg (by rw [decide_eq_true_eq]; omega)]
          exact fin2 _ _ t s3 (by rw [eu1, if_neg h0])
      · intro σ H3 pw
        obtain ⟨s3, v4, rfl⟩ := (hPw _ _ _).mp pw
        rw [eu_end _ (Nat.lt_of_lt_of_le hx (Nat.pow_le_pow_right (by decide) (by decide)))]
        exact fin _ _ _ _ _ (s1.trans s3) rfl
    · intro σ H1 pw
      obtain ⟨s1, v2, v3, v4, rfl⟩ := (hPv _ _ _).mp pw
      rw [List.length_map, List.take_length]
      walk_at "wp"
      exact q _ s1
theorem ok_law_reduced (T : Txt K mg A) : FnOk P w K mg base CX0 2 A.f_law_reduced A.d_law_reduced ["condition"] (sp_law_reduced K) := by
  have G_law_gcd := ok_law_gcd (P := P) (w := w) (base := base) T
  refine T.F_law_reduced.ok sc_law_reduced (fun vs H Q E h => ?_) (fun cdv A' outer s H vs Q E hr h => ?_)
  · obtain ⟨a, x, n, rfl, _⟩ := h
    rfl
  · obtain ⟨a, x, n, rfl, hE, hs, hn, q⟩ := h
    refine ⟨_, (pss_cons (ps_set (i := 1) sc_law_reduced.nd rfl (Or.inr rfl) (pe_call G_law_gcd hr (by rfl) T.g_law_gcd T.F_law_gcd.kp T.B_law_gcd .nil pass0 (pa_cons (pe_slice sl_tupA (pv 0) po_none (po_some (pe_un un_neg pe_int))) pa_nil))) 
    (pss_cons (ps_if (pt_cmpR op_le (pv 1) pe_int (nomark _)) 
      (pss_one (ps_ret (pe_callTy call_tuple_of (by rfl) T.b_tuple (by decide +kernel) (pa_cons (pv 0) pa_nil)))) pss_nil) 
    (pss_one (ps_ret (pe_callTy call_tuple_of (by rfl) T.b_tuple (by decide +kernel) (pa_cons (pe_lc (own := [("number", 2)]) (by rfl) sc_law_reduced.nd (pi_tup (pv 0)) (blkOk_by (own := [("number", 2)]) (N := ["condition", "divisor", "number"]) (sc := defScope s_law_reduced) (by decide +kernel)) (fun _ _ _ _ _ => (pg_name (i := 2) sc_law_reduced.nd rfl (Or.inl rfl) (Or.inr rfl))) (fun _ _ _ _ _ => pts_nil) (fun _ _ _ _ _ => (pe_op op_fdivW (pv 2) (pv 1)))) pa_nil)))))), ?_⟩
    walk_at "wp"
    have hE' := hE
    unfold ExT at hE'
    rw [ex_list] at hE'
    refine sl_init hE' fun H1 p1 s1 h1 => ⟨p1, x.1, rfl, h1, hs.cs, fun H2 s2 => ?_⟩
    have hE2 := sameT (s1.trans s2) hE
    have hz : Sz 100 ((gl 0 x.1 : Nat) : Int) := sz_gl hs.cs (Sz.zero _)
    have e0 := redE_e x
    walk_at "wp"
    by_cases hg : gl 0 x.1 ≤ 1
    · rw [if_pos (decide_eq_true (by omega))]
      refine ⟨_, .inr ⟨hE2, q _ a (s1.trans s2) ?_⟩⟩
      unfold ExT
      rw [e0]
      by_cases h0 : gl 0 x.1 = 0
      · rw [if_pos h0]
        exact hE2
      · rw [if_neg h0, show gl 0 x.1 = 1 by omega, map_div1]
        exact hE2
    · rw [if_neg (by rw [decide_eq_true_eq]; omega)]
      rw [if_neg (by omega)] at e0
      refine ⟨⟨_, hE2⟩, fun D hD => ?_⟩
      refine lc_tupI (· / (gl 0 x.1 : Int)) hE2 hD (by rw [hs.elen]; omega) (fun c H' R hc s3 k => ?_) (fun H' s3 e3 => ?_)
      · walk_at "wp"
        exact ⟨cdivw (by omega) hz (by decide) (by decide), k _ (Same.refl _)⟩
      · refine ⟨_, .inl ⟨SqL.of e3, fun t nt => q _ t ((s1.trans s2).trans (s3.trans (same_upd nt))) ?_⟩⟩
        unfold ExT
        rw [e0]
        exact SqT.of upd_same
theorem ok_law_least (T : Txt K mg A) : FnOk P w K mg base CX0 3 A.f_law_least A.d_law_least ["conditions"] (sp_law_least K) := by
  have G_law_reduced := ok_law_reduced (P := P) (w := w) (base := base) T
  refine T.F_law_least.ok sc_law_least (fun vs H Q E h => ?_) (fun cdv A' outer s H vs Q E hr h => ?_)
  · obtain ⟨l, rs, n, rfl, _⟩ := h
    rfl
  · obtain ⟨l, rs, n, rfl, hL, hA, hS, hn, hl, q⟩ := h
    refine ⟨_, (pss_cons (ps_set (i := 1) sc_law_least.nd rfl (Or.inr rfl) (pe_lst pa_nil)) 
    (pss_cons (ps_for PassesOwn.never rfl (pi_list (pv 0)) (pg_name (i := 2) sc_law_least.nd rfl (Or.inl rfl)) 
      (pss_cons (ps_set (i := 3) sc_law_least.nd rfl (Or.inr rfl) (pe_call G_law_reduced hr (by rfl) T.g_law_reduced T.F_law_reduced.kp T.B_law_reduced .nil pass0 (pa_cons (pv 2) pa_nil))) 
      (pss_cons (ps_setLc (i := 4) (own := [("k", 5)]) (by rfl) sc_law_least.nd rfl rfl (sw_true rfl rfl rfl (by decide +kernel)) (pi_range1 (by rfl) T.b_range (pa_cons (pe_callB call_len_seq (by rfl) T.b_len (by decide +kernel) (pa_cons (pv 1) pa_nil)) pa_nil)) (blkOk_by (own := [("k", 5)]) (N := ["conditions", "found", "condition", "small", "places", "k", "x"]) (sc := defScope s_law_least) (by decide +kernel)) (fun _ _ _ _ _ => (pg_name (i := 5) sc_law_least.nd rfl (Or.inl rfl) (Or.inr rfl))) (fun _ _ _ _ _ => pts_one (pt_cmpR (op_eqDK (K := K) (by rfl) hr.units) (pe_slice (r := rSlA K) sl_tupA (pe_ix (r := rIxL K) ix_list (pv 1) (pv 5) (fun _ _ => rfl)) po_none (po_some (pe_un un_neg pe_int))) (pe_slice (r := rSlA K) sl_tupA (pv 3) po_none (po_some (pe_un un_neg pe_int))) (nomark _))) (fun _ _ _ _ _ => (pv 5))) 
      (pss_one (ps_if (pt_not (pt_truth (pv 4) (by intro _; rfl))) 
        (pss_one (ps_expr (pe_bm PySem.F.plainAttrs_list PySem.F.slot_list_append PySem.F.type_list_append mt_append (pv 1) (pa_cons (pv 3) pa_nil)))) 
        (pss_one (ps_if (pt_cmpR op_lt (pe_ix ix_tup (pv 3) (pe_un un_neg pe_int) (fun _ _ => rfl)) (pe_ix ix_tup (pe_ix ix_list (pv 1) (pe_ix ix_list (pv 4) pe_int (fun _ _ => rfl)) (fun _ _ => rfl)) (pe_un un_neg pe_int) (fun _ _ => rfl)) (nomark _)) 
          (pss_one (ps_asg (pv 3) (pg_sub (pv 1) (pe_ix ix_list (pv 4) pe_int (fun _ _ => rfl)) set_list))) pss_nil))))))) 
    (pss_one (ps_ret (pe_lc (own := [("small", 3)]) (by rfl) sc_law_least.nd (pi_list (pv 1)) (blkOk_by (own := [("small", 3)]) (N := ["conditions", "found", "condition", "small", "places", "k", "x"]) (sc := defScope s_law_least) (by decide +kernel)) (fun _ _ _ _ _ => (pg_name (i := 3) sc_law_least.nd rfl (Or.inl rfl) (Or.inr rfl))) (fun _ _ _ _ _ => pts_one (PW.pt (pw_or (pt_cmpR op_lt (pe_ix (r := rIxT K) ix_tup (pv 3) (pe_un un_neg pe_int) (fun _ _ => rfl)) pe_int (nomark _)) (pw_or1 (pt_cmpR op_gt (pe_callB (id := "len") (r := fun xs H Q => ∃ p ys, xs = [V.ref p] ∧ (SqL K H p ys ∨ SqT K H p ys) ∧ Q (V.int (ys.length : Int)) H) call_len_seq (by rfl) T.b_len PySem.boot_len (pa_cons (by exact (pe_lc (own := [("x", 6)]) (by rfl) sc_law_least.nd (pi_tupK (K := K) (by rfl) (pe_slice (r := rSlA K) sl_tupA (pv 3) po_none (po_some (pe_un un_neg pe_int)))) (blkOk_by (own := [("x", 6)]) (N := ["conditions", "found", "condition", "small", "places", "k", "x"]) (sc := { kind := ScopeKind.function, names := [(".0", NameKind.local), ("small", NameKind.local), ("len", NameKind.globalImplicit)], isGenerator := false, isCoroutine := false }) (by decide +kernel)) (fun _ _ _ _ _ => (pg_name (i := 6) sc_law_least.nd rfl (Or.inl rfl) (Or.inr rfl))) (fun _ _ _ _ _ => pts_one (pt_cmpR op_ne (pv 6) pe_int (nomark _))) (fun _ _ _ _ _ => (pv 6)))) pa_nil)) pe_int (nomark _)))))) (fun _ _ _ _ _ => (pv 3))))))), ?_⟩
    walk_at "wp"
    refine ⟨Nat.zero_le _, fun fl nfl => ⟨⟨_, (same_upd nfl).seq hL⟩, ?_⟩⟩
    obtain ⟨Pv, hPv⟩ : ∃ Pv : Nat → St → Hp → Prop, ∀ i σ H', Pv i σ H' ↔ ∃ (fs : List (Addr × Ex)) (v2 v3 v4 v5 v6 : Option V), σ = [some (.ref l), some (.ref fl), v2, v3, v4, v5, v6] ∧ Same H H' ∧ H' fl = some (.lst (rsv fs)) ∧ RsAll (ExT K) H' fs ∧
      fs.length ≤ i ∧ (∀ f ∈ fs, ES 100 n f.2) ∧ leastIn (fs.map (·.2)) ((rs.map (·.2)).drop i) = leastIn [] (rs.map (·.2)) := ⟨_, fun _ _ _ => Iff.rfl⟩
    refine loop_it (walk_list (xs := rsv rs)) Pv ((hPv _ _ _).mpr ⟨[], _, _, _, _, _, rfl, same_upd nfl, upd_same, (fun r hr' => by cases hr'), Nat.zero_le _, (fun f hf => by cases hf), rfl⟩) (fun i σ H' _ pw => by
      obtain ⟨fs, v2, v3, v4, v5, v6, rfl, s1, _⟩ := (hPv _ _ _).mp pw
      exact s1.seq hL) ?_ ?_
    · intro i x σ H1 H2 hi pw yy
      obtain ⟨fs, v2, v3, v4, v5, v6, rfl, s1, efl, ho, fl_, wf, er⟩ := (hPv _ _ _).mp pw
      obtain ⟨rfl, e⟩ := yat_at yy
      rw [rsv, List.length_map] at hi
      rw [rsv, List.getElem?_map, List.getElem?_eq_getElem hi] at e
      cases e
      have hmem : rs[i] ∈ rs := List.getElem_mem hi
      generalize hr0 : rs[i] = r at hmem
      have hdrop : (rs.map (·.2)).drop i = r.2 :: (rs.map (·.2)).drop (i + 1) := by
        rw [List.drop_eq_getElem_cons (by rw [List.length_map]; exact hi)]
        congr 1
        rw [← hr0]
        simp
      rw [hdrop, leastIn] at er
      walk_at "wp"
      refine ⟨r.1, r.2, n, rfl, sameT s1 (hA r hmem), hS r hmem, hn, fun H3 y s3 hy => ?_⟩
      have wu := (hS r hmem).red
      generalize redE r.2 = u at *
      have efl3 := s3 _ _ efl
      have ho3 : RsAll (ExT K) H3 fs := ho.same ex_stay s3
      have s13 := s1.trans s3
      have lv : (rsv fs).length = fs.length := by rw [rsv, List.length_map]
      refine ⟨_, .inl (SqL.of efl3), by omega, by omega, fun D hD => ?_⟩
      refine lc_count (walk_range0 (n := (rsv fs).length)) (fun k => decide (((fs.map (·.2)).getD k ([], 0)).1 = u.1)) (fun k => .int (k : Int)) hD (by omega) (fun _ _ => trivial) (fun _ _ _ _ y => by rw [y.1]; exact Same.refl _) (fun k z H4 H5 N R hk s4 yk kN kR => ?_) (fun H4 s4 e4 => ?_)
      · obtain ⟨rfl, rfl⟩ := yk
        rw [lv] at hk
        have hg : fs[k]? = some fs[k] := List.getElem?_eq_getElem hk
        have hgo := ho3 _ (List.getElem_mem hk)
        have eg : ((fs.map (·.2)).getD k ([], 0)) = fs[k].2 := by
          rw [List.getD_eq_getElem?_getD, List.getElem?_map, hg]
          rfl
        simp only [eg] at kN kR
        have ats : atI (rsv fs) (k : Int) = some (.ref fs[k].1) := atI_nat (by rw [rsv, List.getElem?_map, hg]; rfl)
        generalize fs[k] = g at *
        walk_at "wp"
        have hg5 := sameT s4 hgo
        have hy5 := sameT s4 hy
        rw [ex_list] at hg5 hy5
        refine ⟨_, SqL.of (s4 _ _ efl3), _, ats, sl_init hg5 fun H6 p6 s6 h6 => sl_init (sameT s6 hy5) fun H7 p7 s7 h7 => ⟨tupD g.2.1, tupD u.1, dp_tup (sameT s7 h6), dp_tup h7, shaped_tup _, shaped_tup _, ?_⟩⟩
        rw [eqv_tup]
        refine ⟨_, rfl, ?_⟩
        by_cases h : g.2.1 = u.1
        · rw [if_pos (decide_eq_true h)]
          exact kR (decide_eq_true h) _ (s6.trans s7)
        · rw [if_neg (by rw [decide_eq_true_eq]; exact h)]
          exact kN (decide_eq_false h) _ (s6.trans s7)
      · have hh := idx_head u.1 (fs.map (·.2))
        rw [List.length_map, ← lv] at hh
        have efl4 := s4 _ _ efl3
        have ho4 : RsAll (ExT K) H4 fs := ho3.same ex_stay s4
        have hy4 : ExT K H4 y u := sameT s4 hy
        have s14 := s13.trans s4
        cases hq : fndE u.1 (fs.map (·.2)) with
        | none =>
          rw [hq, List.head?_eq_none_iff] at hh
          rw [hh, List.map_nil] at e4
          have hins := insE_none u _ hq
          refine ⟨false, .inl ⟨_, SqL.of e4, rfl⟩, ?_⟩
          rw [if_pos (by decide)]
          refine ⟨.inl ⟨rfl, _, SqL.of efl4⟩, _, efl4, by rw [lv]; exact small1000 (by omega), ?_⟩
          have sb : SBut fl H4 (upd H4 fl (.lst (rsv fs ++ [V.ref y]))) := SBut.upd
          have eg : rsv fs ++ [V.ref y] = rsv (fs ++ [(y, u)]) := by rw [rsv, rsv, List.map_append]; rfl
          refine (hPv _ _ _).mpr ⟨fs ++ [(y, u)], _, _, _, _, _, rfl, SBut.same sb s14 nfl, by rw [upd_same, eg], (fun g hg => ?_), by rw [List.length_append, List.length_singleton]; omega, (fun g hg => ?_), ?_⟩
          · rcases List.mem_append.mp hg with hg | hg
            · exact sqT_but sb efl4 noTup_lst (ho4 g hg)
            · rw [List.mem_singleton.mp hg]
              exact sqT_but sb efl4 noTup_lst hy4
          · rcases List.mem_append.mp hg with hg | hg
            · exact wf g hg
            · rw [List.mem_singleton.mp hg]
              exact wu
          · rw [List.map_append, ← er, hins]
            rfl
        | some j =>
          rw [hq, List.head?_eq_some_iff] at hh
          obtain ⟨tl, hh⟩ := hh
          rw [hh, List.map_cons] at e4
          obtain ⟨f, hf', hs⟩ := fndE_some u.1 _ j hq
          have hins := insE_some u _ j f hq hf'
          rw [List.getElem?_map] at hf'
          cases hfj : fs[j]? with
          | none => rw [hfj] at hf'; cases hf'
          | some g =>
            rw [hfj] at hf'
            cases hf'
            have hj : j < fs.length := (List.getElem?_eq_some_iff.mp hfj).1
            refine ⟨true, .inl ⟨_, SqL.of e4, rfl⟩, ?_⟩
            rw [if_neg (by decide)]
            have gok := ho4 g (List.mem_of_getElem? hfj)
            have ats : atI (rsv fs) (j : Int) = some (.ref g.1) := atI_nat (by rw [rsv, List.getElem?_map, hfj]; rfl)
            have ixj : ixN (rsv fs).length (j : Int) = some j := by
              unfold ixN
              rw [lv]
              simp [hj]
            have fin : ∀ (H' : Hp) (gs : List (Addr × Ex)) (c : Ex), SBut fl H4 H' → H' fl = some (.lst (rsv gs)) → RsAll (ExT K) H4 gs → gs.map (·.2) = (fs.map (·.2)).set j c → c = (if u.2 < g.2.2 then u else g.2) → gs.length = fs.length → (∀ f ∈ gs, ES 100 n f.2) →
                Pv (i + 1) [some (.ref l), some (.ref fl), some (.ref r.1), some (.ref y), some (.ref D), v5, v6] H' := fun H' gs c sb e a m ec hl' wg =>
              (hPv _ _ _).mpr ⟨gs, _, _, _, _, _, rfl, SBut.same sb s14 nfl, e, fun g' hg => sqT_but sb efl4 noTup_lst (a g' hg), by omega, wg, by rw [m, ← er, hins, ← ec]⟩
            have lastA : ∀ x : Ex, atI (x.e.map V.int) (-1) = some (V.int x.2) := fun x => by rw [ex_list]; exact atI_last _ _
            refine ⟨_, rfl, _, hy4, _, lastA u, _, SqL.of e4, _, atI_nat (j := 0) rfl, _, _, rfl, SqL.of efl4, _, ats, _, rfl, _, gok, _, lastA g.2, _, rfl, _, rfl, ?_⟩
            by_cases hd : u.2 < g.2.2
            · rw [if_pos (decide_eq_true hd)]
              refine ⟨_, SqL.of e4, _, atI_nat (j := 0) rfl, _, _, rfl, efl4, _, ixj, ?_⟩
              refine fin _ (fs.set j (y, u)) u SBut.upd (by rw [upd_same, rsv, rsv, List.map_set]) (fun g' hg => ?_) (by rw [List.map_set]) (if_pos hd).symm (by rw [List.length_set]) (fun g' hg => ?_)
              · rcases List.mem_or_eq_of_mem_set hg with hg | rfl
                · exact ho4 g' hg
                · exact hy4
              · rcases List.mem_or_eq_of_mem_set hg with hg | rfl
                · exact wf g' hg
                · exact wu
            · rw [if_neg (by rw [decide_eq_true_eq]; exact hd)]
              refine fin _ fs g.2 (fun b o _ e => e) efl4 ho4 ?_ (if_neg hd).symm rfl wf
              refine (List.ext_getElem? fun m => ?_)
              by_cases hm : m = j
              · subst hm
                rw [List.getElem?_set_self (by rw [List.length_map]; exact hj), List.getElem?_map, hfj]
                rfl
              · rw [List.getElem?_set_ne (Ne.symm hm)]
    · intro σ H1 pw
      obtain ⟨fs, v2, v3, v4, v5, v6, rfl, s1, efl, ho, fl_, wf, er⟩ := (hPv _ _ _).mp pw
      walk_at "wp"
      rw [rsv, List.length_map] at fl_ er
      rw [List.drop_of_length_le (by rw [List.length_map]; exact Nat.le_refl _), leastIn] at er
      refine ⟨⟨_, SqL.of efl⟩, fun D hD => ?_⟩
      have hlen : fs.length ≤ 800 := Nat.le_trans fl_ hl
      refine lc_rsF (ex_stay (K := K)) (walk_list (xs := rsv fs)) (fun i => ((fs.map (·.2)).take i).filter fun x => !always x) rfl hD (by rw [rsv, List.length_map]; omega) (fun i hi => Nat.le_trans (List.length_filter_le _ _) (by rw [List.length_take]; omega)) (fun H' s => s.seq (SqL.of efl)) yat_same (fun i x H2 H3 N R hi s2 y kN kR => ?_) (fun H2 ss s2 e2 a2 r2 => ?_)
      · obtain ⟨rfl, e⟩ := yat_at y
        rw [rsv, List.length_map] at hi
        rw [rsv, List.getElem?_map, List.getElem?_eq_getElem hi] at e
        cases e
        have hm : fs[i] ∈ fs := List.getElem_mem hi
        have et : (fs.map (·.2)).take (i + 1) = (fs.map (·.2)).take i ++ [fs[i].2] := by
          rw [List.take_succ_eq_append_getElem (by rw [List.length_map]; exact hi)]
          simp
        rw [et, List.filter_append] at kN kR
        generalize fs[i] = f at *
        have hf := ho f hm
        have hf2 := sameT s2 hf
        walk_at "wp"
        have hal : always f.2 = (decide (0 ≤ f.2.2) && f.2.1.all (fun c => decide (c = 0))) := rfl
        refine ⟨_, hf2, _, by rw [ex_list]; exact atI_last _ _, _, rfl, ?_⟩
        by_cases hd : f.2.2 < 0
        · rw [if_pos (decide_eq_true hd)]
          refine kR f.2 ?_ _ f.1 (Same.refl _) hf2
          have h0 : decide (0 ≤ f.2.2) = false := decide_eq_false (by omega)
          rw [h0, Bool.false_and] at hal
          simp [hal]
        · rw [if_neg (by rw [decide_eq_true_eq]; exact hd)]
          have h0 : decide (0 ≤ f.2.2) = true := decide_eq_true (by omega)
          rw [h0, Bool.true_and] at hal
          have hf3 := hf2
          unfold ExT at hf3
          rw [ex_list] at hf3
          refine sl_init hf3 fun H4 p4 s4 h4 => ⟨p4, rfl, ⟨_, h4⟩, fun D2 hD2 => ?_⟩
          refine lc_tupIF (fun c => decide (c ≠ 0)) h4 hD2 (by rw [(wf f hm).len]; omega) (fun c H' N' R' hc s5 k1 k2 => ?_) (fun H5 s5 e5 => ?_)
          · walk_at "wp"
            by_cases hc0 : c = 0
            · rw [if_neg (by rw [decide_eq_true hc0]; decide)]
              exact k1 (decide_eq_false fun z => z hc0) _ (Same.refl _)
            · rw [if_pos (by rw [decide_eq_false hc0]; rfl)]
              exact k2 (decide_eq_true hc0) _ (Same.refl _)
          · refine ⟨_, .inl (SqL.of e5), ?_⟩
            rw [List.length_map, filter_len_pos]
            have s25 := s4.trans s5
            cases ha : always f.2 with
            | true =>
              rw [ha] at hal
              rw [if_neg (by
                rw [List.any_eq_true]
                rintro ⟨c, hc, hn⟩
                have h1 := of_decide_eq_true (List.all_eq_true.mp hal.symm c hc)
                exact (of_decide_eq_true hn) h1)]
              refine kN ?_ _ s25
              simp [ha]
            | false =>
              rw [ha] at hal
              rw [if_pos (by
                rw [List.any_eq_true]
                obtain ⟨c, hc, hn⟩ := List.all_eq_false.mp hal.symm
                exact ⟨c, hc, decide_eq_true fun z => hn (decide_eq_true z)⟩)]
              refine kR f.2 ?_ _ f.1 s25 (sameT s25 hf2)
              simp [ha]
      · refine q _ D ss (s1.trans s2) e2 a2 ?_
        rw [r2, leastE, ← er, rsv, List.length_map, List.take_of_length_le (by rw [List.length_map]; exact Nat.le_refl _)]
def dot : List Int → List Int → Int
  | c :: cs, p :: ps => c * p + dot cs ps
  | _, _ => 0
theorem dot_map (g : Int) : ∀ (c p : List Int), (∀ x ∈ c, g ∣ x) → dot c p = g * dot (c.map (· / g)) p
  | [], _, _ => (Int.mul_zero g).symm
  | _ :: _, [], _ => (Int.mul_zero g).symm
  | x :: c, y :: p, h => by
    rw [List.map_cons, dot, dot, dot_map g c p fun z hz => h z (List.mem_cons_of_mem _ hz), Int.mul_add, ← Int.mul_assoc, Int.mul_ediv_cancel' (h x (List.mem_cons_self ..))]
def dotk (c p : List Int) : Nat → Int
  | 0 => 0
  | i + 1 => dotk c p i + c.getD i 0 * p.getD i 0
theorem dotk_cons (a b : Int) (c p : List Int) : ∀ i, dotk (a :: c) (b :: p) (i + 1) = a * b + dotk c p i
  | 0 => by simp [dotk]
  | i + 1 => by
    rw [dotk, dotk_cons a b c p i, dotk]
    simp only [List.getD_cons_succ]
    omega
theorem dotk_eq : ∀ (c p : List Int), c.length = p.length → dotk c p p.length = dot c p
  | [], [], _ => rfl
  | a :: c, b :: p, h => by
    rw [List.length_cons, dotk_cons, dotk_eq c p (by simpa using h), dot]
theorem sum_range : ∀ (f : Nat → Int) (n : Nat) (c p : List Int), (∀ i, f i = c.getD i 0 * p.getD i 0) → ((List.range n).map f).sum = dotk c p n
  | f, 0, c, p, h => rfl
  | f, n + 1, c, p, h => by
    rw [List.range_succ, List.map_append, List.sum_append, sum_range f n c p h]
    simp [dotk, h]
theorem getE {c : List Int} {d : Int} {i : Nat} (h : i < c.length) : ((c ++ [d]).map V.int)[i]? = some (V.int (c.getD i 0)) := by
  rw [List.getElem?_map, List.getElem?_append_left h, List.getElem?_eq_getElem h, List.getD_eq_getElem?_getD, List.getElem?_eq_getElem h]
  rfl
theorem getP {p : List Int} {i : Nat} (h : i < p.length) : (p.map V.int)[i]? = some (V.int (p.getD i 0)) := by
  rw [List.getElem?_map, List.getElem?_eq_getElem h, List.getD_eq_getElem?_getD, List.getElem?_eq_getElem h]
  rfl
theorem memD {p : List Int} {i : Nat} (h : i < p.length) : p.getD i 0 ∈ p := by
  rw [List.getD_eq_getElem?_getD, List.getElem?_eq_getElem h]
  exact List.getElem_mem h
theorem dot_sz {a b : Nat} : ∀ (c p : List Int), (∀ x ∈ c, Sz a x) → (∀ y ∈ p, Sz b y) → Sz (a + b + c.length) (dot c p)
  | [], _, _, _ => Sz.zero _
  | _ :: _, [], _, _ => Sz.zero _
  | x :: c, y :: p, h, k => by
    rw [dot]
    have h1 := (h x List.mem_cons_self).mul (k y List.mem_cons_self)
    have h2 := dot_sz c p (fun z hz => h z (List.mem_cons_of_mem _ hz)) (fun z hz => k z (List.mem_cons_of_mem _ hz))
    exact (h1.mono (Nat.le_add_right _ c.length)).add h2
/-! ### values of conditions -/
def val (x : Ex) (p : List Int) : Int := dot x.1 p + x.2
theorem dot_scale (f : Int) : ∀ (c p : List Int), dot (c.map (f * ·)) p = f * dot c p
  | [], _ => by simp [dot]
  | _ :: _, [] => by simp [dot]
  | x :: c, y :: p => by rw [List.map_cons, dot, dot, dot_scale f c p, Int.mul_add, Int.mul_assoc]
theorem dot_addL : ∀ (a b p : List Int), a.length = b.length → dot (addL a b) p = dot a p + dot b p
  | [], [], _, _ => by simp [addL, dot]
  | _ :: _, _ :: _, [], _ => by simp [addL, dot]
  | x :: a, y :: b, z :: p, h => by
    have ih := dot_addL a b p (by simpa using h)
    rw [addL, List.zipWith_cons_cons, dot, dot, dot]
    rw [addL] at ih
    rw [ih, Int.add_mul]
    omega
theorem val_comb {k : Nat} {l u : Ex} (h : l.1.length = u.1.length) (p : List Int) : val (comb k l u) p = -co k u * val l p + co k l * val u p := by
  unfold val comb
  dsimp only
  rw [dot_addL _ _ _ (by rw [List.length_map, List.length_map, h]), dot_scale, dot_scale, Int.mul_add, Int.mul_add]
  omega
theorem val_red {x : Ex} {p : List Int} (h : 0 ≤ val x p) : 0 ≤ val (redE x) p := by
  unfold redE
  split
  · exact h
  · rename_i hg
    unfold val at *
    dsimp only
    have hd := (gl_dvd x.1 0).2
    rw [dot_map _ x.1 p hd] at h
    generalize gl 0 x.1 = g at *
    generalize dot (x.1.map (· / (g : Int))) p = v at *
    have e1 := Int.mul_ediv_add_emod x.2 (g : Int)
    have e3 := Int.emod_lt_of_pos x.2 (show (0 : Int) < (g : Int) by omega)
    generalize x.2 / (g : Int) = q at *
    generalize x.2 % (g : Int) = r at *
    rcases Int.lt_or_le (v + q) 0 with hlt | hle
    · have h1 : (g : Int) * (v + q) ≤ (g : Int) * (-1) := Int.mul_le_mul_of_nonneg_left (by omega) (by omega)
      rw [Int.mul_add] at h1
      omega
    · exact hle
theorem elimIn_mem {k n b : Nat} {l : List Ex} (hl : ∀ x ∈ l, ES b n x) (hk : k < n) (P : Ex → Prop) (h0 : ∀ x ∈ l, co k x = 0 → P x) (h1 : ∀ a ∈ l, ∀ c ∈ l, 0 < co k a → co k c < 0 → P (comb k a c)) : ∀ x ∈ elimIn k l, P x := by
  have ho : ∀ x ∈ oth k l, P x := fun x hx => by
    obtain ⟨h, e⟩ := List.mem_filter.mp hx
    exact h0 x h (of_decide_eq_true e)
  intro x hx
  unfold elimIn at hx
  split at hx
  · exact ho x hx
  · rcases List.mem_append.mp hx with h | h
    · exact ho x h
    · obtain ⟨a, ha, c, hc, rfl⟩ := combs_mem h
      obtain ⟨a1, a2⟩ := List.mem_filter.mp ha
      obtain ⟨c1, c2⟩ := List.mem_filter.mp hc
      exact h1 a a1 c c1 (of_decide_eq_true a2) (of_decide_eq_true c2)
theorem leastE_mem (P : Ex → Prop) {l : List Ex} (h : ∀ t ∈ l, P (redE t)) : ∀ t ∈ leastE l, P t := fun t ht =>
  leastIn_mem P l [] h (fun _ h => by cases h) t (List.mem_filter.mp ht).1
theorem co_red {k : Nat} {x : Ex} (h : co k x = 0) : co k (redE x) = 0 := by
  unfold redE
  split
  · exact h
  · unfold co at *
    dsimp only
    rw [List.getD_eq_getElem?_getD] at h ⊢
    rw [List.getElem?_map]
    cases hq : x.1[k]? with
    | none => rfl
    | some z =>
      rw [hq] at h
      have : z = 0 := h
      subst this
      exact Int.zero_ediv _
theorem elim_zero {k n b : Nat} {l : List Ex} (hl : ∀ x ∈ l, ES b n x) (hk : k < n) : ∀ x ∈ leastE (elimIn k l), co k x = 0 :=
  leastE_mem _ fun t ht => co_red (elimIn_mem hl hk (fun x => co k x = 0) (fun _ _ h => h) (fun a ha c hc _ _ => comb_co k a c (by rw [(hl a ha).len, (hl c hc).len]) (by rw [(hl c hc).len]; exact hk)) t ht)
theorem elim_val {k n b : Nat} {l : List Ex} {p : List Int} (hl : ∀ x ∈ l, ES b n x) (hk : k < n) (h : ∀ x ∈ l, 0 ≤ val x p) : ∀ x ∈ leastE (elimIn k l), 0 ≤ val x p :=
  leastE_mem _ fun t ht => val_red (elimIn_mem hl hk (fun x => 0 ≤ val x p) (fun x hx _ => h x hx) (fun a ha c hc p1 p2 => by
    show 0 ≤ val (comb k a c) p
    rw [val_comb (by rw [(hl a ha).len, (hl c hc).len])]
    have h1 := Int.mul_nonneg (show 0 ≤ -co k c by omega) (h a ha)
    have h2 := Int.mul_nonneg (show 0 ≤ co k a by omega) (h c hc)
    omega) t ht)
theorem elim_es {k n b : Nat} {l : List Ex} (hl : ∀ x ∈ l, ES b n x) (hk : k < n) : ∀ x ∈ elimIn k l, ES (b + b + 1) n x :=
  elimIn_mem hl hk _ (fun x hx _ => (hl x hx).mono (by omega)) fun a ha c hc _ _ => comb_es (hl a ha) (hl c hc)
theorem elim_len (k : Nat) (l : List Ex) : (elimIn k l).length ≤ l.length + 64 := by
  unfold elimIn
  have : (oth k l).length ≤ l.length := List.length_filter_le _ _
  split
  · omega
  · rw [List.length_append, combs_len]
    omega
def sp_law_value (K : PySem.W.Frag) : Sp := fun vs H Q _ => ∃ (a b : Addr) (x : Ex) (p : List Int), vs = [.ref a, .ref b] ∧ ExT K H a x ∧ SqL K H b (p.map V.int) ∧ x.1.length = p.length ∧ p.length ≤ 90 ∧ (∀ z ∈ x.1, Sz 1000 z) ∧ (∀ z ∈ p, Sz 1000 z) ∧ Q (.int (val x p)) H
def sp_law_combined (K : PySem.W.Frag) : Sp := fun vs H Q _ => ∃ (a b : Addr) (x y : Ex) (k n : Nat), vs = [.ref a, .ref b, .int (k : Int)] ∧ ExT K H a x ∧ ExT K H b y ∧ ES 20 n x ∧ ES 20 n y ∧ k < n ∧ n ≤ 90 ∧ ∀ H' t, Same H H' → ExT K H' t (comb k x y) → Q (.ref t) H'
def sp_law (K : PySem.W.Frag) : Sp := fun vs H Q _ => ∃ (a : Addr) (ns : List Int), vs = [.ref a] ∧ SqL K H a (ns.map V.int) ∧ (∀ z ∈ ns, Builtin.Int.intBits z ≤ 1048576) ∧ ∀ H', Q (.bl true) H'
theorem sp_law_of {K : PySem.W.Frag} {H : Hp} {a : Addr} {ns : List Int} (_ : ns.length ≤ 63) (hb : ∀ z ∈ ns, Builtin.Int.intBits z ≤ 1048576) (_ : Only H) (hS : SqL K H a (ns.map V.int)) : sp_law K [.ref a] H (fun v _ => v = .bl true) fun _ _ _ => False :=
  ⟨a, ns, rfl, hS, hb, fun _ => rfl⟩
theorem ok_law_value (T : Txt K mg A) : FnOk P w K mg base CX0 1 A.f_law_value A.d_law_value ["expression", "point"] (sp_law_value K) := by
  refine T.F_law_value.ok sc_law_value (fun vs H Q E h => ?_) (fun cdv A' outer s H vs Q E hr h => ?_)
  · obtain ⟨a, b, x, p, rfl, _⟩ := h
    rfl
  · obtain ⟨a, b, x, p, rfl, hE, hB, hl, hn, hc, hp, q⟩ := h
    refine ⟨_, (pss_cons (ps_set (i := 2) sc_law_value.nd rfl (Or.inl rfl) (pe_ix ix_tup (pv 0) (pe_un un_neg pe_int) (fun _ _ => rfl))) 
    (pss_cons (ps_for PassesOwn.never rfl (pi_range1 (by rfl) T.b_range (pa_cons (pe_callB call_len_seq (by rfl) T.b_len (by decide +kernel) (pa_cons (pv 1) pa_nil)) pa_nil)) (pg_name (i := 3) sc_law_value.nd rfl (Or.inl rfl)) 
      (pss_one (ps_set (i := 2) sc_law_value.nd rfl (Or.inl rfl) (pe_op op_add (pv 2) (pe_op op_mulX (pe_ix ix_tup (pv 0) (pv 3) (fun _ _ => rfl)) (pe_ix ix_list (pv 1) (pv 3) (fun _ _ => rfl))))))) 
    (pss_one (ps_ret (pv 2))))), ?_⟩
    walk_at "wp"
    refine ⟨_, hE, _, by rw [ex_list]; exact atI_last _ _, _, .inl hB, by rw [List.length_map]; omega, by rw [List.length_map]; omega, ?_⟩
    refine loop_it (walk_range0 (n := (p.map V.int).length)) (fun i σ H' => H' = H ∧ ∃ v3, σ = [some (V.ref a), some (V.ref b), some (V.int (dotk x.1 p i + x.2)), v3]) ⟨rfl, _, by rw [dotk, Int.zero_add]⟩ (fun _ _ _ _ _ => trivial) ?_ ?_
    · rintro i z σ H1 H2 hi ⟨rfl, v3, rfl⟩ ⟨rfl, rfl⟩
      rw [List.length_map] at hi
      have e1 : atI (x.e.map V.int) (i : Int) = some (V.int (x.1.getD i 0)) := at_co (by omega)
      have e2 : atI (p.map V.int) (i : Int) = some (V.int (p.getD i 0)) := atI_nat (getP hi)
      walk_at "wp"
      refine ⟨_, hE, _, e1, _, hB, _, e2, _, rfl, _, rfl, ⟨_, _, hc _ (memD (by omega)), hp _ (memD hi), by decide⟩, ?_, _, rfl⟩
      rw [dotk]
      omega
    · rintro σ H1 ⟨rfl, v3, rfl⟩
      rw [List.length_map, dotk_eq _ _ hl]
      walk_at "wp"
      exact q
theorem ok_law_combined (T : Txt K mg A) : FnOk P w K mg base CX0 1 A.f_law_combined A.d_law_combined ["lower", "upper", "index"] (sp_law_combined K) := by
  refine T.F_law_combined.ok sc_law_combined (fun vs H Q E h => ?_) (fun cdv A' outer s H vs Q E hr h => ?_)
  · obtain ⟨a, b, x, y, k, n, rfl, _⟩ := h
    rfl
  · obtain ⟨a, b, x, y, k, n, rfl, hX, hY, sx, sy, hk, hn, q⟩ := h
    refine ⟨_, (pss_one (ps_ret (pe_callTy call_tuple_of (by rfl) T.b_tuple (by decide +kernel) (pa_cons (pe_lc (own := [("k", 3)]) (by rfl) sc_law_combined.nd (pi_range1 (by rfl) T.b_range (pa_cons (pe_callB call_len_seq (by rfl) T.b_len (by decide +kernel) (pa_cons (pv 0) pa_nil)) pa_nil)) (blkOk_by (own := [("k", 3)]) (N := ["lower", "upper", "index", "k"]) (sc := defScope s_law_combined) (by decide +kernel)) (fun _ _ _ _ _ => (pg_name (i := 3) sc_law_combined.nd rfl (Or.inl rfl) (Or.inr rfl))) (fun _ _ _ _ _ => pts_nil) (fun _ _ _ _ _ => (pe_op op_sub (pe_op op_mulX (pe_ix (r := rIxT K) ix_tup (pv 0) (pv 2) (fun _ _ => rfl)) (pe_ix (r := rIxT K) ix_tup (pv 1) (pv 3) (fun _ _ => rfl))) (pe_op op_mulX (pe_ix (r := rIxT K) ix_tup (pv 1) (pv 2) (fun _ _ => rfl)) (pe_ix (r := rIxT K) ix_tup (pv 0) (pv 3) (fun _ _ => rfl)))))) pa_nil)))), ?_⟩
    walk_at "wp"
    refine ⟨_, .inr hX, by rw [List.length_map, sx.elen]; omega, by rw [List.length_map, sx.elen]; omega, fun D hD => ?_⟩
    have hce := comb_e k x y (by rw [sx.len, sy.len])
    have hlen : (comb k x y).e.length = n + 1 := (comb_es sx sy).elen
    refine lc_ys (walk_range0 (n := (x.e.map V.int).length)) ((comb k x y).e.map V.int) hD (by rw [List.length_map, sx.elen]; omega) (by rw [List.length_map, List.length_map, hlen, sx.elen]) (fun _ _ => trivial) (fun _ _ _ _ yy => by rw [yy.1]; exact Same.refl _) (fun i z v H1 H2 R hi hv s1 yy kk => ?_) (fun H' s' e' => ?_)
    · obtain ⟨rfl, rfl⟩ := yy
      rw [List.length_map, sx.elen] at hi
      have hix : i < x.e.length := by rw [sx.elen]; exact hi
      have hiy : i < y.e.length := by rw [sy.elen]; exact hi
      rw [List.getElem?_map, hce, addL, List.getElem?_zipWith, List.getElem?_map, List.getElem?_map, List.getElem?_eq_getElem hix, List.getElem?_eq_getElem hiy] at hv
      have hv : v = V.int (-co k y * x.e[i] + co k x * y.e[i]) := (Option.some.inj hv).symm
      subst hv
      have ax := at_co (k := k) (x := x) (by rw [sx.len]; exact hk)
      have ay := at_co (k := k) (x := y) (by rw [sy.len]; exact hk)
      have bx : atI (x.e.map V.int) (i : Int) = some (V.int x.e[i]) := atI_nat (by rw [List.getElem?_map, List.getElem?_eq_getElem hix]; rfl)
      have by_ : atI (y.e.map V.int) (i : Int) = some (V.int y.e[i]) := atI_nat (by rw [List.getElem?_map, List.getElem?_eq_getElem hiy]; rfl)
      have zx := sx.e _ (List.getElem_mem hix)
      have zy := sy.e _ (List.getElem_mem hiy)
      generalize x.e[i] = xi at *
      generalize y.e[i] = yi at *
      walk_at "wp"
      refine ⟨_, sameT s1 hX, _, ax, _, sameT s1 hY, _, by_, _, rfl, _, rfl, ⟨20, 20, co_sz sx, zy, by decide⟩, _, sameT s1 hY, _, ay, _, sameT s1 hX, _, bx, _, rfl, _, rfl, ⟨20, 20, co_sz sy, zx, by decide⟩, ?_⟩
      rw [show co k x * yi - co k y * xi = -co k y * xi + co k x * yi by rw [Int.neg_mul]; omega]
      exact kk _ (Same.refl _)
    · refine ⟨_, .inl ⟨SqL.of e', fun t nt => q _ t (s'.trans (same_upd nt)) ?_⟩⟩
      unfold ExT
      exact SqT.of upd_same
theorem ok_law_same (T : Txt K mg A) : FnOk P w K mg base CX0 4 A.f_law_same A.d_law_same ["actual", "expected"] (sp_law_same 2 K) := ok_law_same_n T 2
theorem ok_law (T : Txt K mg A) : FnOk P w K mg base CX0 5 A.f_law A.d_law ["script"] (sp_law K) := by
  have G_law_stream := ok_law_stream (P := P) (w := w) (base := base) T
  have G_law_next := ok_law_next (P := P) (w := w) (base := base) T
  have G_eliminate := ok_eliminate (P := P) (w := w) (base := base) T
  have G_law_expression := ok_law_expression (P := P) (w := w) (base := base) T
  have G_law_same := ok_law_same (P := P) (w := w) (base := base) T
  have G_law_least := ok_law_least (P := P) (w := w) (base := base) T
  have G_law_combined := ok_law_combined (P := P) (w := w) (base := base) T
  have G_law_value := ok_law_value (P := P) (w := w) (base := base) T
  refine T.F_law.ok sc_law (fun vs H Q E h => ?_) (fun cdv A' outer s H vs Q E hr h => ?_)
  · obtain ⟨l, ns, rfl, _⟩ := h
    rfl
  · obtain ⟨l, ns, rfl, hS, hb, q⟩ := h
    have ⟨R11, hR11, kR11⟩ : ∃ R, PSs (cxOf CX0 P w K mg base ["script", "stream", "count", "index", "many", "listed", "k", "without", "condition", "lowers", "uppers", "expected", "lower", "upper", "passed", "actual", "point", "j", "inside"] "law" (defScope s_law) A.f_law cdv A' outer s H E).nox ((defBody s_law).drop 11) R ∧ ∀ (H1 : Hp) (st d p la ea : Addr) (n k : Nat) (rs es : List (Addr × Ex)) (v4 v6 v7 v8 v9 v10 v12 v13 v14 v15 v16 v17 v18 : Option V),
        Stm H1 st d p → la ≠ p → H1 la = some (.lst (rsv rs)) → RsAll (ExT K) H1 rs → (∀ r ∈ rs, ES 6 n r.2) → k < n → n ≤ 5 → rs.length ≤ 24 → H1 ea = some (.lst (rsv es)) → RsAll (ExT K) H1 es → es.map (·.2) = elimIn k (rs.map (·.2)) →
        R { nx := fun _ H' => Q .non H', rt := Q } [some (.ref l), some (.ref st), some (.int (n : Int)), some (.int (k : Int)), v4, some (.ref la), v6, v7, v8, v9, v10, some (.ref ea), v12, v13, v14, v15, v16, v17, v18] H1 := by
      refine ⟨_, (pss_cons (ps_set (i := 14) sc_law.nd rfl (Or.inl rfl) (pe_callTy call_list_of (by rfl) T.b_list (by decide +kernel) (pa_cons (pv 5) pa_nil))) 
    (pss_cons (ps_set (i := 15) sc_law.nd rfl (Or.inl rfl) (pe_call G_eliminate hr (by rfl) T.g_eliminate T.F_eliminate.kp T.B_eliminate .nil pass0 (pa_cons (pv 14) (pa_cons (pv 3) pa_nil)))) 
    (pss_cons (ps_if (PW.pt (pw_or (pt_cmpR (op_neD hr.units) (pv 14) (pv 5) (nomark _)) (pw_or1 (pt_not (pt_val (pe_call G_law_same hr (by rfl) T.g_law_same T.F_law_same.kp T.B_law_same .nil pass0 (pa_cons (pv 15) (pa_cons (pe_call G_law_least (hr.mono (by decide)) (by rfl) T.g_law_least T.F_law_least.kp T.B_law_least .nil pass0 (pa_cons (pv 11) pa_nil)) pa_nil)))))))) 
      (pss_one (ps_ret pe_bl)) pss_nil) 
    (pss_cons (ps_for PassesOwn.never rfl (pi_list (pv 15)) (pg_name (i := 8) sc_law.nd rfl (Or.inl rfl)) 
      (pss_one (ps_if (pt_cmpR op_ne (pe_ix ix_tup (pv 8) (pv 3) (fun _ _ => rfl)) pe_int (nomark _)) 
        (pss_one (ps_ret pe_bl)) pss_nil))) 
    (pss_cons (ps_for PassesOwn.never rfl (pi_range1 (by rfl) T.b_range (pa_cons pe_int pa_nil)) (pg_name (i := 6) sc_law.nd rfl (Or.inl rfl)) 
      (pss_cons (ps_set (i := 16) sc_law.nd rfl (Or.inr rfl) (pe_lc (own := [("j", 17)]) (by rfl) sc_law.nd (pi_range1 (by rfl) T.b_range (pa_cons (pv 2) pa_nil)) (blkOk_by (own := [("j", 17)]) (N := ["script", "stream", "count", "index", "many", "listed", "k", "without", "condition", "lowers", "uppers", "expected", "lower", "upper", "passed", "actual", "point", "j", "inside"]) (sc := defScope s_law) (by decide +kernel)) (fun _ _ _ _ _ => (pg_name (i := 17) sc_law.nd rfl (Or.inl rfl) (Or.inr rfl))) (fun _ _ _ _ _ => pts_nil) (fun _ _ _ _ _ => (pe_op op_sub (pe_call G_law_next (hr.mono (by decide)) (by rfl) T.g_law_next T.F_law_next.kp T.B_law_next .nil pass0 (pa_cons (pv 1) (pa_cons pe_int pa_nil))) pe_int)))) 
      (pss_cons (ps_set (i := 18) sc_law.nd rfl (Or.inl rfl) (pe_cmpR op_ge (pe_callB (cr_min rfl) (by rfl) T.b_min (by decide +kernel) (pa_cons (pe_op op_cat (pe_lst (pa_cons pe_int pa_nil)) (pe_lc (own := [("condition", 8)]) (by rfl) sc_law.nd (pi_list (pv 5)) (blkOk_by (own := [("condition", 8)]) (N := ["script", "stream", "count", "index", "many", "listed", "k", "without", "condition", "lowers", "uppers", "expected", "lower", "upper", "passed", "actual", "point", "j", "inside"]) (sc := defScope s_law) (by decide +kernel)) (fun _ _ _ _ _ => (pg_name (i := 8) sc_law.nd rfl (Or.inl rfl) (Or.inr rfl))) (fun _ _ _ _ _ => pts_nil) (fun _ _ _ _ _ => (pe_call G_law_value (hr.mono (by decide)) (by rfl) T.g_law_value T.F_law_value.kp T.B_law_value .nil pass0 (pa_cons (pv 8) (pa_cons (pv 16) pa_nil)))))) pa_nil)) pe_int (nomark _))) 
      (pss_one (ps_if (PW.pt (pw_and (pt_val (pv 18)) (pw_and1 (pt_cmpR op_lt (pe_callB (cr_min rfl) (by rfl) T.b_min (by decide +kernel) (pa_cons (pe_op op_cat (pe_lst (pa_cons pe_int pa_nil)) (pe_lc (own := [("condition", 8)]) (by rfl) sc_law.nd (pi_list (pv 15)) (blkOk_by (own := [("condition", 8)]) (N := ["script", "stream", "count", "index", "many", "listed", "k", "without", "condition", "lowers", "uppers", "expected", "lower", "upper", "passed", "actual", "point", "j", "inside"]) (sc := defScope s_law) (by decide +kernel)) (fun _ _ _ _ _ => (pg_name (i := 8) sc_law.nd rfl (Or.inl rfl) (Or.inr rfl))) (fun _ _ _ _ _ => pts_nil) (fun _ _ _ _ _ => (pe_call G_law_value (hr.mono (by decide)) (by rfl) T.g_law_value T.F_law_value.kp T.B_law_value .nil pass0 (pa_cons (pv 8) (pa_cons (pv 16) pa_nil)))))) pa_nil)) pe_int (nomark _))))) 
        (pss_one (ps_ret pe_bl)) pss_nil))))) 
    (pss_one (ps_ret pe_bl))))))), fun H1 st d p la ea n k rs es v4 v6 v7 v8 v9 v10 v12 v13 v14 v15 v16 v17 v18 hM nlp ela hA hS5 hk hn hl eea hE me => ?_⟩
      walk_at "wp"
      refine ⟨_, .inl (SqL.of ela), fun pp np => ?_⟩
      have s1 := same_upd (o := .lst (rsv rs)) np
      have epp : upd H1 pp (.lst (rsv rs)) pp = some (.lst (rsv rs)) := upd_same
      generalize upd H1 pp (.lst (rsv rs)) = H2 at *
      have hA2 := hA.same ex_stay s1
      have hSm : ∀ x ∈ rs.map (·.2), ES 6 n x := fun x hx => by
        obtain ⟨r, hr, rfl⟩ := List.mem_map.mp hx
        exact hS5 r hr
      have wE : ∀ r ∈ es, ES 100 n r.2 := fun r hr => (elim_es hSm hk r.2 (by rw [← me]; exact List.mem_map.mpr ⟨r, hr, rfl⟩)).mono (by decide)
      have lE : es.length ≤ 100 := by
        have h1 := congrArg List.length me
        have h2 := elim_len k (rs.map (·.2))
        rw [List.length_map] at h1 h2
        omega
      refine ⟨pp, rs, n, k, rfl, SqL.of epp, hA2, fun r hr => (hS5 r hr).mono (by decide), by omega, hk, by omega, fun H3 aa ss s2 faa eaa hA3 ms => ?_⟩
      have s13 := s1.trans s2
      have d1 := dp_exl (SqL.of (s2 _ _ epp)) (hA2.same ex_stay s2)
      have d2 := dp_exl (SqL.of (s13 _ _ ela)) (hA.same ex_stay s13)
      refine ⟨_, _, d1, d2, shaped_exs _, shaped_exs _, ?_⟩
      rw [SeqAt.eqv_refl _ (lay_exsD _)]
      refine ⟨false, rfl, ?_⟩
      rw [if_neg (by decide)]
      refine ⟨ea, es, n, rfl, SqL.of (s13 _ _ eea), hE.same ex_stay s13, wE, by omega, by omega, fun H4 a2 ss2 s4 e2 hA4 m2 => ?_⟩
      have eaa4 := s4 _ _ eaa
      have hA34 := hA3.same ex_stay s4
      have ms2 : ss.map (·.2) = ss2.map (·.2) := by rw [ms, m2, me]
      have l2 : ss2.length ≤ 100 := by
        have := congrArg List.length m2
        rw [List.length_map, leastE] at this
        rw [this]
        refine Nat.le_trans (List.length_filter_le _ _) (Nat.le_trans (leastIn_len _ _) ?_)
        rw [List.length_map, List.length_nil]
        omega
      have lss : ss.length = ss2.length := by
        have := congrArg List.length ms2
        rwa [List.length_map, List.length_map] at this
      have wS : ∀ r ∈ ss, ES 100 n r.2 := fun r hr => leastE_mem (ES 100 n) (fun t ht => ((elim_es hSm hk t ht).mono (by decide)).red) r.2 (by rw [← ms]; exact List.mem_map.mpr ⟨r, hr, rfl⟩)
      have zS : ∀ r ∈ ss, co k r.2 = 0 := fun r hr => elim_zero hSm hk r.2 (by rw [← ms]; exact List.mem_map.mpr ⟨r, hr, rfl⟩)
      have vS : ∀ pt : List Int, (∀ r ∈ rs, 0 ≤ val r.2 pt) → ∀ r ∈ ss, 0 ≤ val r.2 pt := fun pt h r hr => elim_val hSm hk (fun x hx => by
        obtain ⟨r, hr, rfl⟩ := List.mem_map.mp hx
        exact h r hr) r.2 (by rw [← ms]; exact List.mem_map.mpr ⟨r, hr, rfl⟩)
      refine ⟨_, _, rfl, sameD_exs (SqL.of eaa4) (SqL.of e2) hA34 hA4 ms2 (by omega) (fun r hr => by rw [(wS r hr).elen]; omega), ⟨true, rfl, ?_⟩⟩
      rw [if_neg (by decide)]
      have s14 := s13.trans s4
      refine ⟨aa, rfl, ⟨_, SqL.of eaa4⟩, ?_⟩
      refine loop_it (walk_list (xs := rsv ss)) (fun i σ H' => Same H4 H' ∧ ∃ v8, σ = [some (.ref l), some (.ref st), some (.int (n : Int)), some (.int (k : Int)), v4, some (.ref la), v6, v7, v8, v9, v10, some (.ref ea), v12, v13, some (.ref pp), some (.ref aa), v16, v17, v18]) ⟨Same.refl _, _, rfl⟩ (fun i σ H' _ p => p.1.seq (SqL.of eaa4)) ?_ ?_
      · rintro i x σ H5 H6 hi ⟨s5, v8, rfl⟩ yy
        obtain ⟨rfl, e⟩ := yat_at yy
        rw [rsv, List.length_map] at hi
        rw [rsv, List.getElem?_map, List.getElem?_eq_getElem hi] at e
        cases e
        have hr := List.getElem_mem hi
        generalize ss[i] = r at hr
        walk_at "wp"
        refine ⟨_, sameT s5 (hA34 r hr), _, at_co (k := k) (x := r.2) (by rw [(wS r hr).len]; exact hk), rfl, ?_⟩
        rw [zS r hr]
        walk_at "wp"
        exact ⟨s5, _, rfl⟩
      · rintro σ H5 ⟨s5, v8, rfl⟩
        have hM5 := hM.step (hM.same (s14.trans s5))
        have ela5 := (s14.trans s5) _ _ ela
        have hA5 := hA.same ex_stay (s14.trans s5)
        have eaa5 := s5 _ _ eaa4
        have hA35 := hA34.same ex_stay s5
        have nap : aa ≠ p := by
          obtain ⟨i1, ep1⟩ := hM.pl
          exact Ne.symm (ne_of_none (s1 _ _ ep1) faa)
        walk_at "wp"
        refine ⟨by decide, by decide, ?_⟩
        obtain ⟨Pv, hPv⟩ : ∃ Pv : Nat → St → Hp → Prop, ∀ i σ H', Pv i σ H' ↔ Stp p H5 H' ∧ ∃ v6 v8 v16 v17 v18, σ = [some (.ref l), some (.ref st), some (.int (n : Int)), some (.int (k : Int)), v4, some (.ref la), v6, v7, v8, v9, v10, some (.ref ea), v12, v13, some (.ref pp), some (.ref aa), v16, v17, v18] := ⟨_, fun _ _ _ => Iff.rfl⟩
        refine loop_it (walk_range0 (n := 12)) Pv ((hPv _ _ _).mpr ⟨hM5.refl, _, _, _, _, _, rfl⟩) (fun _ _ _ _ _ => trivial) ?_ ?_
        · intro i x σ H6 H7 hi pw y
          obtain ⟨s6, v6, v8, v16, v17, v18, rfl⟩ := (hPv _ _ _).mp pw
          obtain ⟨rfl, rfl⟩ := y
          walk_at "wp"
          refine ⟨by omega, by omega, fun D hD => ?_⟩
          obtain ⟨i5, ep5⟩ := hM5.pl
          obtain ⟨i6, ep6⟩ := s6.pl
          have hM6 := hM5.step s6
          have nDp : D ≠ p := Ne.symm (ne_of_none ep6 hD)
          obtain ⟨Pw, hPw⟩ : ∃ Pw : Nat → Hp → Prop, ∀ j H', Pw j H' ↔ Stp p H7 H' ∧ ∃ zs : List Int, H' D = some (.lst (zs.map V.int)) ∧ zs.length = j ∧ ∀ z ∈ zs, Sz 6 z := ⟨_, fun _ _ => Iff.rfl⟩
          refine loopc_it (walk_range0 (n := n)) Pw ((hPw _ _).mpr ⟨hM6.same (same_upd hD), [], upd_same, rfl, fun _ h => by cases h⟩) (fun _ _ _ _ => trivial) ?_ ?_
          · intro j x H8 H9 hj pw2 y
            obtain ⟨s8, zs, ez, hlz, hz⟩ := (hPw _ _).mp pw2
            obtain ⟨rfl, rfl⟩ := y
            walk_at "wp"
            refine ⟨st, d, p, 19, rfl, hM6.step s8, by decide, fun H10 u s10 u0 u1 => ?_⟩
            refine ⟨_, rfl, zs.map V.int, s10.keep _ _ nDp ez, small1000 (by rw [List.length_map]; omega), (hPw _ _).mpr ⟨(s8.trans s10).upd hD nDp, zs ++ [u - 9], by rw [upd_same, List.map_append]; rfl, by rw [List.length_append, hlz]; rfl, fun z hz' => ?_⟩⟩
            rcases List.mem_append.mp hz' with h | h
            · exact hz z h
            · rw [List.mem_singleton.mp h]
              unfold Sz
              show Int.natAbs _ < 64
              omega
          · intro H8 pw2
            obtain ⟨s8, zs, ez, hlz, hz⟩ := (hPw _ _).mp pw2
            have s58 := s6.trans s8
            have ela8 := s58.keep _ _ nlp ela5
            have eaa8 := s58.keep _ _ nap eaa5
            have hA8 : RsAll (ExT K) H8 rs := fun r hr => s58.sqT ep5 (hA5 r hr)
            have hB8 : RsAll (ExT K) H8 ss := fun r hr => s58.sqT ep5 (hA35 r hr)
            refine ⟨by decide, fun l0 nl0 => ⟨⟨_, SqL.of ((same_upd nl0) _ _ ela8)⟩, fun D2 hD2 => ?_⟩⟩
            have s9 := same_upd (o := .lst [V.int 0]) nl0
            have e90 : upd H8 l0 (.lst [V.int 0]) l0 = some (.lst [V.int 0]) := upd_same
            generalize upd H8 l0 (.lst [V.int 0]) = H9 at *
            refine lc_objV (fun r => V.int (val r.2 zs)) (SqL.of (s9 _ _ ela8)) hD2 (by omega) (fun r H10 R hr s10 kk => ?_) (fun H10 s10 e10 => ?_)
            · walk_at "wp"
              refine ⟨r.1, D, r.2, zs, rfl, sameT (s9.trans s10) (hA8 r hr), SqL.of ((s9.trans s10) _ _ ez), by rw [(hS5 r hr).len, hlz], by omega, fun z hz => ((hS5 r hr).cs z hz).mono (by decide), fun z h => (hz z h).mono (by decide), kk _ (Same.refl _)⟩
            refine ⟨l0, D2, _, _, rfl, rfl, s10 _ _ e90, e10, by rw [List.length_map]; exact Nat.le_of_lt (small1000 (by simp; omega)), fun p3 n3 => ?_⟩
            refine ⟨p3, 0 :: rs.map fun r => val r.2 zs, rfl, SqL.of (by rw [upd_same, List.map_cons, List.map_map]; rfl), Nat.succ_pos _, fun m hm hmin => ?_⟩
            have s11 := (s9.trans s10).trans (same_upd (o := .lst ([V.int 0] ++ rs.map fun r => V.int (val r.2 zs))) n3)
            generalize upd H10 p3 (.lst ([V.int 0] ++ rs.map fun r => V.int (val r.2 zs))) = H11 at *
            refine ⟨m, rfl, ?_⟩
            have fin : ∀ (H' : Hp) (b : Bool), Same H8 H' → Pv (i + 1) [some (.ref l), some (.ref st), some (.int (n : Int)), some (.int (k : Int)), v4, some (.ref la), some (.int (i : Int)), v7, v8, v9, v10, some (.ref ea), v12, v13, some (.ref pp), some (.ref aa), some (.ref D), v17, some (.bl b)] H' := fun H' b s => (hPv _ _ _).mpr ⟨s58.same s, _, _, _, _, _, rfl⟩
            by_cases h0 : 0 ≤ m
            · rw [if_pos (decide_eq_true h0)]
              have hv := vS zs fun r hr => by
                have := hmin (val r.2 zs) (List.mem_cons_of_mem _ (List.mem_map.mpr ⟨r, hr, rfl⟩))
                omega
              refine ⟨by decide, fun l1 nl1 => ⟨⟨_, SqL.of ((s11.trans (same_upd nl1)) _ _ eaa8)⟩, fun D3 hD3 => ?_⟩⟩
              have s12 := s11.trans (same_upd (o := .lst [V.int 0]) nl1)
              have e12 : upd H11 l1 (.lst [V.int 0]) l1 = some (.lst [V.int 0]) := upd_same
              generalize upd H11 l1 (.lst [V.int 0]) = H12 at *
              refine lc_objV (fun r => V.int (val r.2 zs)) (SqL.of (s12 _ _ eaa8)) hD3 (by omega) (fun r H13 R hr s13 kk => ?_) (fun H13 s13 e13 => ?_)
              · walk_at "wp"
                refine ⟨r.1, D, r.2, zs, rfl, sameT (s12.trans s13) (hB8 r hr), SqL.of ((s12.trans s13) _ _ ez), by rw [(wS r hr).len, hlz], by omega, fun z hz => ((wS r hr).cs z hz).mono (by decide), fun z h => (hz z h).mono (by decide), kk _ (Same.refl _)⟩
              refine ⟨l1, D3, _, _, rfl, rfl, s13 _ _ e12, e13, by rw [List.length_map]; exact Nat.le_of_lt (small1000 (by simp; omega)), fun p4 n4 => ?_⟩
              refine ⟨p4, 0 :: ss.map fun r => val r.2 zs, rfl, SqL.of (by rw [upd_same, List.map_cons, List.map_map]; rfl), Nat.succ_pos _, fun m2 hm2 hmin2 => ⟨m2, rfl, ?_⟩⟩
              have h2 : 0 ≤ m2 := by
                rcases List.mem_cons.mp hm2 with h | h
                · omega
                · obtain ⟨r, hr, rfl⟩ := List.mem_map.mp h
                  exact hv r hr
              rw [if_neg (by rw [decide_eq_true_eq]; omega)]
              exact fin _ _ ((s12.trans s13).trans (same_upd n4))
            · rw [if_neg (by rw [decide_eq_true_eq]; exact h0)]
              exact fin _ _ s11
        · intro σ H6 pw
          obtain ⟨s6, v6, v8, v16, v17, v18, rfl⟩ := (hPv _ _ _).mp pw
          walk_at "wp"
          exact q _
    have ⟨R6, hR6, kR6⟩ : ∃ R, PSs (cxOf CX0 P w K mg base ["script", "stream", "count", "index", "many", "listed", "k", "without", "condition", "lowers", "uppers", "expected", "lower", "upper", "passed", "actual", "point", "j", "inside"] "law" (defScope s_law) A.f_law cdv A' outer s H E).nox ((defBody s_law).drop 6) R ∧ ∀ (H1 : Hp) (st d p la : Addr) (n k : Nat) (rs : List (Addr × Ex)) (v4 v6 v7 v8 v9 v10 v11 v12 v13 v14 v15 v16 v17 v18 : Option V),
        Stm H1 st d p → la ≠ p → H1 la = some (.lst (rsv rs)) → RsAll (ExT K) H1 rs → (∀ r ∈ rs, ES 6 n r.2) → k < n → n ≤ 5 → rs.length ≤ 24 →
        R { nx := fun _ H' => Q .non H', rt := Q } [some (.ref l), some (.ref st), some (.int (n : Int)), some (.int (k : Int)), v4, some (.ref la), v6, v7, v8, v9, v10, v11, v12, v13, v14, v15, v16, v17, v18] H1 := by
      refine ⟨_, (pss_cons (ps_setLc (i := 7) (own := [("condition", 8)]) (by rfl) sc_law.nd rfl rfl (sw_true rfl rfl rfl (by decide +kernel)) (pi_list (pv 5)) (blkOk_by (own := [("condition", 8)]) (N := ["script", "stream", "count", "index", "many", "listed", "k", "without", "condition", "lowers", "uppers", "expected", "lower", "upper", "passed", "actual", "point", "j", "inside"]) (sc := defScope s_law) (by decide +kernel)) (fun _ _ _ _ _ => (pg_name (i := 8) sc_law.nd rfl (Or.inl rfl) (Or.inr rfl))) (fun _ _ _ _ _ => pts_one (pt_cmpR op_eq (pe_ix (r := rIxT K) ix_tup (pv 8) (pv 3) (fun _ _ => rfl)) pe_int (nomark _))) (fun _ _ _ _ _ => (pv 8))) 
    (pss_cons (ps_setLc (i := 9) (own := [("condition", 8)]) (by rfl) sc_law.nd rfl rfl (sw_true rfl rfl rfl (by decide +kernel)) (pi_list (pv 5)) (blkOk_by (own := [("condition", 8)]) (N := ["script", "stream", "count", "index", "many", "listed", "k", "without", "condition", "lowers", "uppers", "expected", "lower", "upper", "passed", "actual", "point", "j", "inside"]) (sc := defScope s_law) (by decide +kernel)) (fun _ _ _ _ _ => (pg_name (i := 8) sc_law.nd rfl (Or.inl rfl) (Or.inr rfl))) (fun _ _ _ _ _ => pts_one (pt_cmpR op_gt (pe_ix (r := rIxT K) ix_tup (pv 8) (pv 3) (fun _ _ => rfl)) pe_int (nomark _))) (fun _ _ _ _ _ => (pv 8))) 
    (pss_cons (ps_setLc (i := 10) (own := [("condition", 8)]) (by rfl) sc_law.nd rfl rfl (sw_true rfl rfl rfl (by decide +kernel)) (pi_list (pv 5)) (blkOk_by (own := [("condition", 8)]) (N := ["script", "stream", "count", "index", "many", "listed", "k", "without", "condition", "lowers", "uppers", "expected", "lower", "upper", "passed", "actual", "point", "j", "inside"]) (sc := defScope s_law) (by decide +kernel)) (fun _ _ _ _ _ => (pg_name (i := 8) sc_law.nd rfl (Or.inl rfl) (Or.inr rfl))) (fun _ _ _ _ _ => pts_one (pt_cmpR op_lt (pe_ix (r := rIxT K) ix_tup (pv 8) (pv 3) (fun _ _ => rfl)) pe_int (nomark _))) (fun _ _ _ _ _ => (pv 8))) 
    (pss_cons (ps_set (i := 11) sc_law.nd rfl (Or.inl rfl) (pe_callTy call_list_of (by rfl) T.b_list (by decide +kernel) (pa_cons (pv 7) pa_nil))) 
    (pss_cons (ps_if (pt_cmpR op_le (pe_op op_add (pe_callB call_len_seq (by rfl) T.b_len (by decide +kernel) (pa_cons (pv 7) pa_nil)) (pe_op op_mulX (pe_callB call_len_seq (by rfl) T.b_len (by decide +kernel) (pa_cons (pv 9) pa_nil)) (pe_callB call_len_seq (by rfl) T.b_len (by decide +kernel) (pa_cons (pv 10) pa_nil)))) pe_int (nomark _)) 
      (pss_one (ps_for PassesOwn.never rfl (pi_list (pv 9)) (pg_name (i := 12) sc_law.nd rfl (Or.inr rfl)) 
        (pss_one (ps_expr (pe_bm PySem.F.plainAttrs_list PySem.F.slot_list_extend PySem.F.type_list_extend mt_extend (pv 11) (pa_cons (pe_lc (own := [("upper", 13)]) (by rfl) sc_law.nd (pi_list (pv 10)) (blkOk_by (own := [("upper", 13)]) (N := ["script", "stream", "count", "index", "many", "listed", "k", "without", "condition", "lowers", "uppers", "expected", "lower", "upper", "passed", "actual", "point", "j", "inside"]) (sc := defScope s_law) (by decide +kernel)) (fun _ _ _ _ _ => (pg_name (i := 13) sc_law.nd rfl (Or.inl rfl) (Or.inr rfl))) (fun _ _ _ _ _ => pts_nil) (fun _ _ _ _ _ => (pe_call G_law_combined (hr.mono (by decide)) (by rfl) T.g_law_combined T.F_law_combined.kp T.B_law_combined .nil pass0 (pa_cons (pv 12) (pa_cons (pv 13) (pa_cons (pv 3) pa_nil)))))) pa_nil)))))) pss_nil) hR11))))), fun H1 st d p la n k rs v4 v6 v7 v8 v9 v10 v11 v12 v13 v14 v15 v16 v17 v18 hM nlp ela hA hS5 hk hn hl => ?_⟩
      walk_at "wp"
      have hL : SqL K H1 la (rsv rs) := SqL.of ela
      have co_at : ∀ r ∈ rs, atI (r.2.e.map V.int) (k : Int) = some (V.int (co k r.2)) := fun r hr => at_co (by rw [(hS5 r hr).len]; exact hk)
      refine ⟨⟨_, hL⟩, fun D1 hD1 => lc_filt (fun x => decide (co k x = 0)) hL hD1 (by omega) (fun r H2 N R hr s2 kN kR => ?_) (fun H2 s2 e2 => ?_)⟩
      · walk_at "wp"
        refine ⟨_, sameT s2 (hA r hr), _, co_at r hr, rfl, ?_⟩
        walk_at "wp"
        by_cases hc : co k r.2 = 0
        · rw [if_pos (decide_eq_true hc)]
          exact kR (decide_eq_true hc) _ (Same.refl _)
        · rw [if_neg (by rw [decide_eq_true_eq]; exact hc)]
          exact kN (decide_eq_false hc) _ (Same.refl _)
      refine ⟨⟨_, s2.seq hL⟩, fun D2 hD2 => lc_filt (fun x => decide (0 < co k x)) (s2.seq hL) hD2 (by omega) (fun r H3 N R hr s3 kN kR => ?_) (fun H3 s3 e3 => ?_)⟩
      · walk_at "wp"
        refine ⟨_, sameT (s2.trans s3) (hA r hr), _, co_at r hr, _, rfl, ?_⟩
        by_cases hc : 0 < co k r.2
        · rw [if_pos (decide_eq_true hc)]
          exact kR (decide_eq_true hc) _ (Same.refl _)
        · rw [if_neg (by rw [decide_eq_true_eq]; exact hc)]
          exact kN (decide_eq_false hc) _ (Same.refl _)
      have s13 := s2.trans s3
      refine ⟨⟨_, s13.seq hL⟩, fun D3 hD3 => lc_filt (fun x => decide (co k x < 0)) (s13.seq hL) hD3 (by omega) (fun r H4 N R hr s4 kN kR => ?_) (fun H4 s4 e4 => ?_)⟩
      · walk_at "wp"
        refine ⟨_, sameT (s13.trans s4) (hA r hr), _, co_at r hr, _, rfl, ?_⟩
        by_cases hc : co k r.2 < 0
        · rw [if_pos (decide_eq_true hc)]
          exact kR (decide_eq_true hc) _ (Same.refl _)
        · rw [if_neg (by rw [decide_eq_true_eq]; exact hc)]
          exact kN (decide_eq_false hc) _ (Same.refl _)
      have s14 := s13.trans s4
      have f1 : H4 D1 = some (.lst (rsv (rs.filter fun r => decide (co k r.2 = 0)))) := s4 _ _ (s3 _ _ e2)
      have f2 : H4 D2 = some (.lst (rsv (rs.filter fun r => decide (0 < co k r.2)))) := s4 _ _ e3
      refine ⟨_, .inl (SqL.of f1), fun ea nea => ?_⟩
      have s5 := same_upd (o := .lst (rsv (rs.filter fun r => decide (co k r.2 = 0)))) nea
      have n2 : D2 ≠ ea := ne_of_none f2 nea
      have n3 : D3 ≠ ea := ne_of_none e4 nea
      have nla : la ≠ ea := ne_of_none (s14 _ _ ela) nea
      have eea5 : upd H4 ea (.lst (rsv (rs.filter fun r => decide (co k r.2 = 0)))) ea = some (.lst (rsv (rs.filter fun r => decide (co k r.2 = 0)))) := upd_same
      generalize upd H4 ea (.lst (rsv (rs.filter fun r => decide (co k r.2 = 0)))) = H5 at *
      have s15 := s14.trans s5
      have g1 := s5 _ _ f1
      have g2 := s5 _ _ f2
      have g3 := s5 _ _ e4
      have hA5 := hA.same ex_stay s15
      have ela5 := s15 _ _ ela
      have hM5 := hM.step (hM.same s15)
      have ho := RsAll.filt hA5 fun r => decide (co k r.2 = 0)
      have hl5 := RsAll.filt hA5 fun r => decide (0 < co k r.2)
      have hu5 := RsAll.filt hA5 fun r => decide (co k r.2 < 0)
      have mo : (rs.filter fun r => decide (co k r.2 = 0)).map (·.2) = oth k (rs.map (·.2)) := filt_map (fun x => decide (co k x = 0)) rs
      have ml : (rs.filter fun r => decide (0 < co k r.2)).map (·.2) = low k (rs.map (·.2)) := filt_map (fun x => decide (0 < co k x)) rs
      have mu : (rs.filter fun r => decide (co k r.2 < 0)).map (·.2) = upp k (rs.map (·.2)) := filt_map (fun x => decide (co k x < 0)) rs
      have wl : ∀ r ∈ rs.filter fun r => decide (0 < co k r.2), ES 20 n r.2 := fun r hr => (hS5 r (List.mem_filter.mp hr).1).mono (by decide)
      have wu : ∀ r ∈ rs.filter fun r => decide (co k r.2 < 0), ES 20 n r.2 := fun r hr => (hS5 r (List.mem_filter.mp hr).1).mono (by decide)
      have no : (rs.filter fun r => decide (co k r.2 = 0)).length ≤ 24 := Nat.le_trans (List.length_filter_le _ _) hl
      have nl : (rs.filter fun r => decide (0 < co k r.2)).length ≤ 24 := Nat.le_trans (List.length_filter_le _ _) hl
      have nu : (rs.filter fun r => decide (co k r.2 < 0)).length ≤ 24 := Nat.le_trans (List.length_filter_le _ _) hl
      generalize (rs.filter fun r => decide (co k r.2 = 0)) = os at *
      generalize (rs.filter fun r => decide (0 < co k r.2)) = ls at *
      generalize (rs.filter fun r => decide (co k r.2 < 0)) = us at *
      have lo : (oth k (rs.map (·.2))).length = os.length := by rw [← mo, List.length_map]
      have ll : (low k (rs.map (·.2))).length = ls.length := by rw [← ml, List.length_map]
      have lu : (upp k (rs.map (·.2))).length = us.length := by rw [← mu, List.length_map]
      have vo : (rsv os).length = os.length := List.length_map ..
      have vl : (rsv ls).length = ls.length := List.length_map ..
      have vu : (rsv us).length = us.length := List.length_map ..
      refine ⟨_, .inl (SqL.of g1), _, .inl (SqL.of g2), _, .inl (SqL.of g3), ⟨32, 32, ?_, ?_, by decide⟩, ?_⟩
      · unfold Sz
        show Int.natAbs _ < 4294967296
        rw [vl]
        omega
      · unfold Sz
        show Int.natAbs _ < 4294967296
        rw [vu]
        omega
      rw [vo, vl, vu]
      have e64 : decide ((os.length : Int) + (ls.length : Int) * (us.length : Int) ≤ 64) = !decide (64 < (oth k (rs.map (·.2))).length + (low k (rs.map (·.2))).length * (upp k (rs.map (·.2))).length) := by
        rw [lo, ll, lu, ← Int.natCast_mul, ← Int.natCast_add, ← decide_not]
        exact decide_eq_decide.mpr (by omega)
      rw [e64]
      by_cases h64 : 64 < (oth k (rs.map (·.2))).length + (low k (rs.map (·.2))).length * (upp k (rs.map (·.2))).length
      · rw [if_neg (by rw [decide_eq_true h64]; decide)]
        exact kR11 H5 st d p la ea n k rs os _ _ _ _ _ _ _ _ _ _ _ _ _ hM5 nlp ela5 hA5 hS5 hk hn hl eea5 ho (by rw [mo, elimIn, if_pos h64])
      · rw [if_pos (by rw [decide_eq_false h64]; rfl)]
        refine ⟨⟨_, SqL.of g2⟩, ?_⟩
        obtain ⟨Pv, hPv⟩ : ∃ Pv : Nat → St → Hp → Prop, ∀ i σ H', Pv i σ H' ↔ SBut ea H5 H' ∧ ∃ (ts : List (Addr × Ex)) (v12 v13 : Option V), σ = [some (.ref l), some (.ref st), some (.int (n : Int)), some (.int (k : Int)), v4, some (.ref la), v6, some (.ref D1), v8, some (.ref D2), some (.ref D3), some (.ref ea), v12, v13, v14, v15, v16, v17, v18] ∧ H' ea = some (.lst (rsv ts)) ∧ RsAll (ExT K) H' ts ∧ ts.map (·.2) = os.map (·.2) ++ combs k ((ls.take i).map (·.2)) (us.map (·.2)) := ⟨_, fun _ _ _ => Iff.rfl⟩
        refine loop_it (walk_list (xs := rsv ls)) Pv ((hPv _ _ _).mpr ⟨fun b o _ e => e, os, _, _, rfl, eea5, ho, by simp [combs]⟩) (fun i σ H' _ pw => SqL.of (((hPv _ _ _).mp pw).1 _ _ n2 g2)) ?_ ?_
        · intro i x σ H6 H7 hi pw yy
          obtain ⟨s6, ts, v12, v13, rfl, et, at_, mt⟩ := (hPv _ _ _).mp pw
          obtain ⟨rfl, e⟩ := yat_at yy
          rw [vl] at hi
          rw [rsv, List.getElem?_map, List.getElem?_eq_getElem hi] at e
          cases e
          have hr := List.getElem_mem hi
          have etk : ls.take (i + 1) = ls.take i ++ [ls[i]] := List.take_succ_eq_append_getElem hi
          have mnext : os.map (·.2) ++ combs k ((ls.take (i + 1)).map (·.2)) (us.map (·.2)) = ts.map (·.2) ++ (us.map (·.2)).map fun u => comb k ls[i].2 u := by
            rw [etk, List.map_append, combs, List.map_append, List.flatten_append, mt, combs, List.append_assoc]
            simp
          have lt : ts.length ≤ 900 := by
            have := congrArg List.length mt
            rw [List.length_map, List.length_append, combs_len, List.length_map, List.length_map, List.length_map, List.length_take] at this
            have h2 := Nat.mul_le_mul (show min i ls.length ≤ 24 by omega) nu
            omega
          generalize ls[i] = g at *
          have hgk := wl g hr
          have tup6 : ∀ a c, ExT K H5 a c → ExT K H7 a c := fun a c h => sqT_but s6 eea5 noTup_lst h
          walk_at "wp"
          refine ⟨.inl ⟨rfl, _, SqL.of et⟩, ⟨_, SqL.of (s6 _ _ n3 g3)⟩, fun D hD => ?_⟩
          refine lc_rs (ex_stay (K := K)) (walk_list (xs := rsv us)) ((us.map (·.2)).map fun u => comb k g.2 u) hD (by rw [vu]; omega) (by rw [List.length_map, List.length_map, vu]) (fun H' s => s.seq (SqL.of (s6 _ _ n3 g3))) yat_same (fun j x y H8 H9 R hj hy s8 yy kk => ?_) (fun H8 vs s8 e8 a8 m8 => ?_)
          · obtain ⟨rfl, e⟩ := yat_at yy
            rw [vu] at hj
            rw [rsv, List.getElem?_map, List.getElem?_eq_getElem hj] at e
            rw [List.getElem?_map, List.getElem?_map, List.getElem?_eq_getElem hj] at hy
            cases e
            cases hy
            have hu := List.getElem_mem hj
            generalize us[j] = u at *
            walk_at "wp"
            refine ⟨g.1, u.1, g.2, u.2, k, n, rfl, sameT s8 (tup6 _ _ (hl5 g hr)), sameT s8 (tup6 _ _ (hu5 u hu)), hgk, wu u hu, hk, by omega, fun H10 t s10 h10 => kk H10 t s10 h10⟩
          · have nDe : D ≠ ea := fun z => by rw [z, et] at hD; cases hD
            have et8 := s8 _ _ et
            have lvs : vs.length = us.length := by
              have := congrArg List.length m8
              rwa [List.length_map, List.length_map, List.length_map] at this
            refine ⟨rsv ts, et8, rsv vs, e8, by rw [rsv, rsv, List.length_map, List.length_map]; exact Nat.le_of_lt (small1000 (by omega)), ?_⟩
            have sb : SBut ea H8 (upd H8 ea (.lst (rsv ts ++ rsv vs))) := SBut.upd
            refine (hPv _ _ _).mpr ⟨s6.trans (SBut.trans (fun b o _ e => s8 b o e) sb), ts ++ vs, _, _, rfl, by rw [upd_same, rsv, rsv, rsv, List.map_append], fun r hr => ?_, ?_⟩
            · rcases List.mem_append.mp hr with h | h
              · exact ex_stay.lst et8 (sameT s8 (at_ r h))
              · exact ex_stay.lst et8 (a8 r h)
            · rw [List.map_append, m8, mnext]
        · intro σ H6 pw
          obtain ⟨s6, ts, v12, v13, rfl, et, at_, mt⟩ := (hPv _ _ _).mp pw
          rw [vl, List.take_length, mo, ml, mu] at mt
          obtain ⟨i5, ep5⟩ := hM5.pl
          have npe : p ≠ ea := fun z => by
            obtain ⟨i1, ep1⟩ := hM.pl
            have := s14 _ _ ep1
            rw [z, nea] at this
            cases this
          have nse : st ≠ ea := fun z => by
            have := s14 _ _ hM.at_
            rw [z, nea] at this
            cases this
          have nde : d ≠ ea := fun z => by
            obtain ⟨ds, ed, _⟩ := hM.dg
            have := s14 _ _ ed
            rw [z, nea] at this
            cases this
          have hM6 : Stm H6 st d p := ⟨s6 _ _ nse hM5.at_, let ⟨ds, h, z⟩ := hM5.dg; ⟨ds, s6 _ _ nde h, z⟩, ⟨i5, s6 _ _ npe ep5⟩, hM5.n1, hM5.n2⟩
          exact kR11 H6 st d p la ea n k rs ts _ _ _ _ _ _ _ _ _ _ _ _ _ hM6 nlp (s6 _ _ nla ela5) (fun r hr => sqT_but s6 eea5 noTup_lst (hA5 r hr)) hS5 hk hn hl et at_ (by rw [mt, elimIn, if_neg h64])
    have ⟨R5, hR5, kR5⟩ : ∃ R, PSs (cxOf CX0 P w K mg base ["script", "stream", "count", "index", "many", "listed", "k", "without", "condition", "lowers", "uppers", "expected", "lower", "upper", "passed", "actual", "point", "j", "inside"] "law" (defScope s_law) A.f_law cdv A' outer s H E).nox ((defBody s_law).drop 5) R ∧ ∀ (H1 : Hp) (st d p : Addr) (n k m : Nat) (v5 v6 v7 v8 v9 v10 v11 v12 v13 v14 v15 v16 v17 v18 : Option V),
        Stm H1 st d p → k < n → n ≤ 5 → m ≤ 24 →
        R { nx := fun _ H' => Q .non H', rt := Q } [some (.ref l), some (.ref st), some (.int (n : Int)), some (.int (k : Int)), some (.int (m : Int)), v5, v6, v7, v8, v9, v10, v11, v12, v13, v14, v15, v16, v17, v18] H1 := by
      refine ⟨_, (pss_cons (ps_setLc (i := 5) (own := [("k", 6)]) (by rfl) sc_law.nd rfl rfl (sw_true rfl rfl rfl (by decide +kernel)) (pi_range1 (by rfl) T.b_range (pa_cons (pv 4) pa_nil)) (blkOk_by (own := [("k", 6)]) (N := ["script", "stream", "count", "index", "many", "listed", "k", "without", "condition", "lowers", "uppers", "expected", "lower", "upper", "passed", "actual", "point", "j", "inside"]) (sc := defScope s_law) (by decide +kernel)) (fun _ _ _ _ _ => (pg_name (i := 6) sc_law.nd rfl (Or.inl rfl) (Or.inr rfl))) (fun _ _ _ _ _ => pts_nil) (fun _ _ _ _ _ => (pe_call G_law_expression (hr.mono (by decide)) (by rfl) T.g_law_expression T.F_law_expression.kp T.B_law_expression .nil pass0 (pa_cons (pv 1) (pa_cons (pv 2) (pa_cons pe_int (pa_cons pe_int pa_nil))))))) hR6), fun H1 st d p n k m v5 v6 v7 v8 v9 v10 v11 v12 v13 v14 v15 v16 v17 v18 hM hk hn hm => ?_⟩
      walk_at "wp"
      refine ⟨by omega, by omega, fun la nla => ?_⟩
      obtain ⟨i0, ep0⟩ := hM.pl
      have nlp : la ≠ p := Ne.symm (ne_of_none ep0 nla)
      obtain ⟨Pv, hPv⟩ : ∃ Pv : Nat → Hp → Prop, ∀ i H', Pv i H' ↔ Stp p H1 H' ∧ ∃ rs, H' la = some (.lst (rsv rs)) ∧ rs.length = i ∧ RsAll (ExT K) H' rs ∧ ∀ r ∈ rs, ES 6 n r.2 := ⟨_, fun _ _ => Iff.rfl⟩
      refine loopc_it (walk_range0 (n := m)) Pv ((hPv _ _).mpr ⟨hM.same (same_upd nla), [], upd_same, rfl, (fun _ h => by cases h), (fun _ h => by cases h)⟩) (fun _ _ _ _ => trivial) ?_ ?_
      · intro i x H2 H3 hi pw y
        obtain ⟨s2, rs, ez, hl, ha, hs⟩ := (hPv _ _).mp pw
        obtain ⟨rfl, rfl⟩ := y
        walk_at "wp"
        refine ⟨st, d, p, n, 3, 20, rfl, hM.step s2, by omega, by decide, by decide, by decide, by decide, fun H4 t c s4 hc cl cz d0 d1 => ?_⟩
        obtain ⟨i2, ep2⟩ := s2.pl
        have ez4 := s4.keep _ _ nlp ez
        refine ⟨_, ez4, small1000 (by rw [rsv, List.length_map]; omega), (hPv _ _).mpr ⟨(s2.trans s4).upd nla nlp, rs ++ [(t, c)], by rw [upd_same, rsv, rsv, List.map_append]; rfl, by rw [List.length_append, hl]; rfl, fun r hr => ?_, fun r hr => ?_⟩⟩
        · rcases List.mem_append.mp hr with h | h
          · exact ex_stay.lst ez4 (s4.sqT ep2 (ha r h))
          · rw [List.mem_singleton.mp h]
            exact ex_stay.lst ez4 hc
        · have sz5 : ∀ z : Int, -64 < z → z < 64 → Sz 6 z := fun z a b => by unfold Sz; show z.natAbs < 64; omega
          rcases List.mem_append.mp hr with h | h
          · exact hs r h
          · rw [List.mem_singleton.mp h]
            exact ⟨cl, fun z hz => sz5 z (by have := cz z hz; omega) (by have := cz z hz; omega), sz5 _ (by show -64 < c.2; omega) (by show c.2 < 64; omega)⟩
      · intro H2 pw
        obtain ⟨s2, rs, ez, hl, ha, hs⟩ := (hPv _ _).mp pw
        exact kR6 H2 st d p la n k rs _ _ _ _ _ _ _ _ _ _ _ _ _ _ (hM.step s2) nlp ez ha hs hk hn (by omega)
    refine ⟨_, (pss_cons (ps_set (i := 1) sc_law.nd rfl (Or.inr rfl) (pe_call G_law_stream (hr.mono (by decide)) (by rfl) T.g_law_stream T.F_law_stream.kp T.B_law_stream .nil pass0 (pa_cons (pv 0) (pa_cons pe_int (pa_cons pe_int pa_nil))))) 
    (pss_cons (ps_set (i := 2) sc_law.nd rfl (Or.inr rfl) (pe_op op_add pe_int (pe_call G_law_next (hr.mono (by decide)) (by rfl) T.g_law_next T.F_law_next.kp T.B_law_next .nil pass0 (pa_cons (pv 1) (pa_cons pe_int pa_nil))))) 
    (pss_cons (ps_set (i := 3) sc_law.nd rfl (Or.inr rfl) (pe_call G_law_next (hr.mono (by decide)) (by rfl) T.g_law_next T.F_law_next.kp T.B_law_next .nil pass0 (pa_cons (pv 1) (pa_cons (pv 2) pa_nil)))) 
    (pss_cons (ps_set (i := 4) sc_law.nd rfl (Or.inl rfl) (pe_call G_law_next (hr.mono (by decide)) (by rfl) T.g_law_next T.F_law_next.kp T.B_law_next .nil pass0 (pa_cons (pv 1) (pa_cons pe_int pa_nil)))) 
    (pss_cons (ps_if (pt_cmpR op_eq (pe_call G_law_next (hr.mono (by decide)) (by rfl) T.g_law_next T.F_law_next.kp T.B_law_next .nil pass0 (pa_cons (pv 1) (pa_cons pe_int pa_nil))) pe_int (nomark _)) 
      (pss_one (ps_set (i := 4) sc_law.nd rfl (Or.inl rfl) pe_int)) pss_nil) hR5))))), ?_⟩
    walk_at "wp"
    refine ⟨l, ns, 0, 24, rfl, hS, by decide, by decide, fun H1 st d p s1 hM np => ?_⟩
    refine ⟨st, d, p, 4, rfl, hM, by decide, fun H2 n0 s2 n00 n01 => ⟨n0, rfl, ?_⟩⟩
    obtain ⟨n, en⟩ : ∃ n : Nat, 1 + n0 = (n : Int) := ⟨(1 + n0).toNat, by omega⟩
    rw [en]
    have hM2 := hM.step s2
    refine ⟨st, d, p, n, rfl, hM2, by omega, fun H3 k0 s3 k00 k01 => ?_⟩
    obtain ⟨k, rfl⟩ : ∃ k : Nat, k0 = (k : Int) := ⟨k0.toNat, by omega⟩
    have hM3 := hM2.step s3
    refine ⟨st, d, p, 15, rfl, hM3, by decide, fun H4 m0 s4 m00 m01 => ?_⟩
    obtain ⟨m, rfl⟩ : ∃ m : Nat, m0 = (m : Int) := ⟨m0.toNat, by omega⟩
    have hM4 := hM3.step s4
    refine ⟨st, d, p, 6, rfl, hM4, by decide, fun H5 u s5 u0 u1 => ⟨rfl, ?_⟩⟩
    have hM5 := hM4.step s5
    split
    · exact kR5 H5 st d p n k 24 _ _ _ _ _ _ _ _ _ _ _ _ _ _ hM5 (by omega) (by omega) (by omega)
    · exact kR5 H5 st d p n k m _ _ _ _ _ _ _ _ _ _ _ _ _ _ hM5 (by omega) (by omega) (by omega)
theorem all_mk {K : PySem.W.Frag} {h : Heap} {mg : Str → Option Value} {fa : Addr} (X : K.In h) (G : h.Ns mainGlobals mg) (hfa : mg "law" = some (.ref fa))
    {x_add : Addr} {od_add an_add : Option Addr} {sl_add : Array (Option Value)} {oc_add kV_add dc_add pm_add cd_add ct_add : Value}
    {x_multiply : Addr} {od_multiply an_multiply : Option Addr} {sl_multiply : Array (Option Value)} {oc_multiply kV_multiply dc_multiply pm_multiply cd_multiply ct_multiply : Value}
    {x_common_divisor : Addr} {od_common_divisor an_common_divisor : Option Addr} {sl_common_divisor : Array (Option Value)} {oc_common_divisor kV_common_divisor dc_common_divisor pm_common_divisor cd_common_divisor ct_common_divisor : Value}
    {x_divided : Addr} {od_divided an_divided : Option Addr} {sl_divided : Array (Option Value)} {oc_divided kV_divided dc_divided pm_divided cd_divided ct_divided : Value}
    {x_reduced : Addr} {od_reduced an_reduced : Option Addr} {sl_reduced : Array (Option Value)} {oc_reduced kV_reduced dc_reduced pm_reduced cd_reduced ct_reduced : Value}
    {x_least_form : Addr} {od_least_form an_least_form : Option Addr} {sl_least_form : Array (Option Value)} {oc_least_form kV_least_form dc_least_form pm_least_form cd_least_form ct_least_form : Value}
    {x_always_holds : Addr} {od_always_holds an_always_holds : Option Addr} {sl_always_holds : Array (Option Value)} {oc_always_holds kV_always_holds dc_always_holds pm_always_holds cd_always_holds ct_always_holds : Value}
    {x_eliminate : Addr} {od_eliminate an_eliminate : Option Addr} {sl_eliminate : Array (Option Value)} {oc_eliminate kV_eliminate dc_eliminate pm_eliminate cd_eliminate ct_eliminate : Value}
    {x_law_cell : Addr} {od_law_cell an_law_cell : Option Addr} {sl_law_cell : Array (Option Value)} {oc_law_cell kV_law_cell dc_law_cell pm_law_cell cd_law_cell ct_law_cell : Value}
    {x_law_draws : Addr} {od_law_draws an_law_draws : Option Addr} {sl_law_draws : Array (Option Value)} {oc_law_draws kV_law_draws dc_law_draws pm_law_draws cd_law_draws ct_law_draws : Value}
    {x_law_stream : Addr} {od_law_stream an_law_stream : Option Addr} {sl_law_stream : Array (Option Value)} {oc_law_stream kV_law_stream dc_law_stream pm_law_stream cd_law_stream ct_law_stream : Value}
    {x_law_next : Addr} {od_law_next an_law_next : Option Addr} {sl_law_next : Array (Option Value)} {oc_law_next kV_law_next dc_law_next pm_law_next cd_law_next ct_law_next : Value}
    {x_law_expression : Addr} {od_law_expression an_law_expression : Option Addr} {sl_law_expression : Array (Option Value)} {oc_law_expression kV_law_expression dc_law_expression pm_law_expression cd_law_expression ct_law_expression : Value}
    {x_law_value : Addr} {od_law_value an_law_value : Option Addr} {sl_law_value : Array (Option Value)} {oc_law_value kV_law_value dc_law_value pm_law_value cd_law_value ct_law_value : Value}
    {x_law_is_integer : Addr} {od_law_is_integer an_law_is_integer : Option Addr} {sl_law_is_integer : Array (Option Value)} {oc_law_is_integer kV_law_is_integer dc_law_is_integer pm_law_is_integer cd_law_is_integer ct_law_is_integer : Value}
    {x_law_same : Addr} {od_law_same an_law_same : Option Addr} {sl_law_same : Array (Option Value)} {oc_law_same kV_law_same dc_law_same pm_law_same cd_law_same ct_law_same : Value}
    {x_law_gcd : Addr} {od_law_gcd an_law_gcd : Option Addr} {sl_law_gcd : Array (Option Value)} {oc_law_gcd kV_law_gcd dc_law_gcd pm_law_gcd cd_law_gcd ct_law_gcd : Value}
    {x_law_reduced : Addr} {od_law_reduced an_law_reduced : Option Addr} {sl_law_reduced : Array (Option Value)} {oc_law_reduced kV_law_reduced dc_law_reduced pm_law_reduced cd_law_reduced ct_law_reduced : Value}
    {x_law_least : Addr} {od_law_least an_law_least : Option Addr} {sl_law_least : Array (Option Value)} {oc_law_least kV_law_least dc_law_least pm_law_least cd_law_least ct_law_least : Value}
    {x_law_combined : Addr} {od_law_combined an_law_combined : Option Addr} {sl_law_combined : Array (Option Value)} {oc_law_combined kV_law_combined dc_law_combined pm_law_combined cd_law_combined ct_law_combined : Value}
    {x_law : Addr} {od_law an_law : Option Addr} {sl_law : Array (Option Value)} {oc_law kV_law dc_law pm_law cd_law ct_law : Value}
    {t_MOST_ELIMINATED : Tok}
    (a_add : PySem.W.nsIn K mainGlobals "add" = some (some (.ref x_add))) (l_add : K.lookup x_add = some ⟨oc_add, od_add, .func (PySem.W.fnOf "add" "add" (defArgs s_add) (defBody s_add) (defScope s_add) .none kV_add dc_add pm_add an_add cd_add ct_add), sl_add⟩) (c_add : PySem.W.codeIn K cd_add "add" = true) (k_add : PySem.W.keepIn K (.ref x_add) = true)
    (a_multiply : PySem.W.nsIn K mainGlobals "multiply" = some (some (.ref x_multiply))) (l_multiply : K.lookup x_multiply = some ⟨oc_multiply, od_multiply, .func (PySem.W.fnOf "multiply" "multiply" (defArgs s_multiply) (defBody s_multiply) (defScope s_multiply) .none kV_multiply dc_multiply pm_multiply an_multiply cd_multiply ct_multiply), sl_multiply⟩) (c_multiply : PySem.W.codeIn K cd_multiply "multiply" = true) (k_multiply : PySem.W.keepIn K (.ref x_multiply) = true)
    (a_common_divisor : PySem.W.nsIn K mainGlobals "common_divisor" = some (some (.ref x_common_divisor))) (l_common_divisor : K.lookup x_common_divisor = some ⟨oc_common_divisor, od_common_divisor, .func (PySem.W.fnOf "common_divisor" "common_divisor" (defArgs s_common_divisor) (defBody s_common_divisor) (defScope s_common_divisor) .none kV_common_divisor dc_common_divisor pm_common_divisor an_common_divisor cd_common_divisor ct_common_divisor), sl_common_divisor⟩) (c_common_divisor : PySem.W.codeIn K cd_common_divisor "common_divisor" = true) (k_common_divisor : PySem.W.keepIn K (.ref x_common_divisor) = true)
    (a_divided : PySem.W.nsIn K mainGlobals "divided" = some (some (.ref x_divided))) (l_divided : K.lookup x_divided = some ⟨oc_divided, od_divided, .func (PySem.W.fnOf "divided" "divided" (defArgs s_divided) (defBody s_divided) (defScope s_divided) .none kV_divided dc_divided pm_divided an_divided cd_divided ct_divided), sl_divided⟩) (c_divided : PySem.W.codeIn K cd_divided "divided" = true) (k_divided : PySem.W.keepIn K (.ref x_divided) = true)
    (a_reduced : PySem.W.nsIn K mainGlobals "reduced" = some (some (.ref x_reduced))) (l_reduced : K.lookup x_reduced = some ⟨oc_reduced, od_reduced, .func (PySem.W.fnOf "reduced" "reduced" (defArgs s_reduced) (defBody s_reduced) (defScope s_reduced) .none kV_reduced dc_reduced pm_reduced an_reduced cd_reduced ct_reduced), sl_reduced⟩) (c_reduced : PySem.W.codeIn K cd_reduced "reduced" = true) (k_reduced : PySem.W.keepIn K (.ref x_reduced) = true)
    (a_least_form : PySem.W.nsIn K mainGlobals "least_form" = some (some (.ref x_least_form))) (l_least_form : K.lookup x_least_form = some ⟨oc_least_form, od_least_form, .func (PySem.W.fnOf "least_form" "least_form" (defArgs s_least_form) (defBody s_least_form) (defScope s_least_form) .none kV_least_form dc_least_form pm_least_form an_least_form cd_least_form ct_least_form), sl_least_form⟩) (c_least_form : PySem.W.codeIn K cd_least_form "least_form" = true) (k_least_form : PySem.W.keepIn K (.ref x_least_form) = true)
    (a_always_holds : PySem.W.nsIn K mainGlobals "always_holds" = some (some (.ref x_always_holds))) (l_always_holds : K.lookup x_always_holds = some ⟨oc_always_holds, od_always_holds, .func (PySem.W.fnOf "always_holds" "always_holds" (defArgs s_always_holds) (defBody s_always_holds) (defScope s_always_holds) .none kV_always_holds dc_always_holds pm_always_holds an_always_holds cd_always_holds ct_always_holds), sl_always_holds⟩) (c_always_holds : PySem.W.codeIn K cd_always_holds "always_holds" = true) (k_always_holds : PySem.W.keepIn K (.ref x_always_holds) = true)
    (a_eliminate : PySem.W.nsIn K mainGlobals "eliminate" = some (some (.ref x_eliminate))) (l_eliminate : K.lookup x_eliminate = some ⟨oc_eliminate, od_eliminate, .func (PySem.W.fnOf "eliminate" "eliminate" (defArgs s_eliminate) (defBody s_eliminate) (defScope s_eliminate) .none kV_eliminate dc_eliminate pm_eliminate an_eliminate cd_eliminate ct_eliminate), sl_eliminate⟩) (c_eliminate : PySem.W.codeIn K cd_eliminate "eliminate" = true) (k_eliminate : PySem.W.keepIn K (.ref x_eliminate) = true)
    (a_law_cell : PySem.W.nsIn K mainGlobals "_law_cell" = some (some (.ref x_law_cell))) (l_law_cell : K.lookup x_law_cell = some ⟨oc_law_cell, od_law_cell, .func (PySem.W.fnOf "_law_cell" "_law_cell" (defArgs s_law_cell) (defBody s_law_cell) (defScope s_law_cell) .none kV_law_cell dc_law_cell pm_law_cell an_law_cell cd_law_cell ct_law_cell), sl_law_cell⟩) (c_law_cell : PySem.W.codeIn K cd_law_cell "_law_cell" = true) (k_law_cell : PySem.W.keepIn K (.ref x_law_cell) = true)
    (a_law_draws : PySem.W.nsIn K mainGlobals "_law_draws" = some (some (.ref x_law_draws))) (l_law_draws : K.lookup x_law_draws = some ⟨oc_law_draws, od_law_draws, .func (PySem.W.fnOf "_law_draws" "_law_draws" (defArgs s_law_draws) (defBody s_law_draws) (defScope s_law_draws) .none kV_law_draws dc_law_draws pm_law_draws an_law_draws cd_law_draws ct_law_draws), sl_law_draws⟩) (c_law_draws : PySem.W.codeIn K cd_law_draws "_law_draws" = true) (k_law_draws : PySem.W.keepIn K (.ref x_law_draws) = true)
    (a_law_stream : PySem.W.nsIn K mainGlobals "_law_stream" = some (some (.ref x_law_stream))) (l_law_stream : K.lookup x_law_stream = some ⟨oc_law_stream, od_law_stream, .func (PySem.W.fnOf "_law_stream" "_law_stream" (defArgs s_law_stream) (defBody s_law_stream) (defScope s_law_stream) .none kV_law_stream dc_law_stream pm_law_stream an_law_stream cd_law_stream ct_law_stream), sl_law_stream⟩) (c_law_stream : PySem.W.codeIn K cd_law_stream "_law_stream" = true) (k_law_stream : PySem.W.keepIn K (.ref x_law_stream) = true)
    (a_law_next : PySem.W.nsIn K mainGlobals "_law_next" = some (some (.ref x_law_next))) (l_law_next : K.lookup x_law_next = some ⟨oc_law_next, od_law_next, .func (PySem.W.fnOf "_law_next" "_law_next" (defArgs s_law_next) (defBody s_law_next) (defScope s_law_next) .none kV_law_next dc_law_next pm_law_next an_law_next cd_law_next ct_law_next), sl_law_next⟩) (c_law_next : PySem.W.codeIn K cd_law_next "_law_next" = true) (k_law_next : PySem.W.keepIn K (.ref x_law_next) = true)
    (a_law_expression : PySem.W.nsIn K mainGlobals "_law_expression" = some (some (.ref x_law_expression))) (l_law_expression : K.lookup x_law_expression = some ⟨oc_law_expression, od_law_expression, .func (PySem.W.fnOf "_law_expression" "_law_expression" (defArgs s_law_expression) (defBody s_law_expression) (defScope s_law_expression) .none kV_law_expression dc_law_expression pm_law_expression an_law_expression cd_law_expression ct_law_expression), sl_law_expression⟩) (c_law_expression : PySem.W.codeIn K cd_law_expression "_law_expression" = true) (k_law_expression : PySem.W.keepIn K (.ref x_law_expression) = true)
    (a_law_value : PySem.W.nsIn K mainGlobals "_law_value" = some (some (.ref x_law_value))) (l_law_value : K.lookup x_law_value = some ⟨oc_law_value, od_law_value, .func (PySem.W.fnOf "_law_value" "_law_value" (defArgs s_law_value) (defBody s_law_value) (defScope s_law_value) .none kV_law_value dc_law_value pm_law_value an_law_value cd_law_value ct_law_value), sl_law_value⟩) (c_law_value : PySem.W.codeIn K cd_law_value "_law_value" = true) (k_law_value : PySem.W.keepIn K (.ref x_law_value) = true)
    (a_law_is_integer : PySem.W.nsIn K mainGlobals "_law_is_integer" = some (some (.ref x_law_is_integer))) (l_law_is_integer : K.lookup x_law_is_integer = some ⟨oc_law_is_integer, od_law_is_integer, .func (PySem.W.fnOf "_law_is_integer" "_law_is_integer" (defArgs s_law_is_integer) (defBody s_law_is_integer) (defScope s_law_is_integer) .none kV_law_is_integer dc_law_is_integer pm_law_is_integer an_law_is_integer cd_law_is_integer ct_law_is_integer), sl_law_is_integer⟩) (c_law_is_integer : PySem.W.codeIn K cd_law_is_integer "_law_is_integer" = true) (k_law_is_integer : PySem.W.keepIn K (.ref x_law_is_integer) = true)
    (a_law_same : PySem.W.nsIn K mainGlobals "_law_same" = some (some (.ref x_law_same))) (l_law_same : K.lookup x_law_same = some ⟨oc_law_same, od_law_same, .func (PySem.W.fnOf "_law_same" "_law_same" (defArgs s_law_same) (defBody s_law_same) (defScope s_law_same) .none kV_law_same dc_law_same pm_law_same an_law_same cd_law_same ct_law_same), sl_law_same⟩) (c_law_same : PySem.W.codeIn K cd_law_same "_law_same" = true) (k_law_same : PySem.W.keepIn K (.ref x_law_same) = true)
    (a_law_gcd : PySem.W.nsIn K mainGlobals "_law_gcd" = some (some (.ref x_law_gcd))) (l_law_gcd : K.lookup x_law_gcd = some ⟨oc_law_gcd, od_law_gcd, .func (PySem.W.fnOf "_law_gcd" "_law_gcd" (defArgs s_law_gcd) (defBody s_law_gcd) (defScope s_law_gcd) .none kV_law_gcd dc_law_gcd pm_law_gcd an_law_gcd cd_law_gcd ct_law_gcd), sl_law_gcd⟩) (c_law_gcd : PySem.W.codeIn K cd_law_gcd "_law_gcd" = true) (k_law_gcd : PySem.W.keepIn K (.ref x_law_gcd) = true)
    (a_law_reduced : PySem.W.nsIn K mainGlobals "_law_reduced" = some (some (.ref x_law_reduced))) (l_law_reduced : K.lookup x_law_reduced = some ⟨oc_law_reduced, od_law_reduced, .func (PySem.W.fnOf "_law_reduced" "_law_reduced" (defArgs s_law_reduced) (defBody s_law_reduced) (defScope s_law_reduced) .none kV_law_reduced dc_law_reduced pm_law_reduced an_law_reduced cd_law_reduced ct_law_reduced), sl_law_reduced⟩) (c_law_reduced : PySem.W.codeIn K cd_law_reduced "_law_reduced" = true) (k_law_reduced : PySem.W.keepIn K (.ref x_law_reduced) = true)
    (a_law_least : PySem.W.nsIn K mainGlobals "_law_least" = some (some (.ref x_law_least))) (l_law_least : K.lookup x_law_least = some ⟨oc_law_least, od_law_least, .func (PySem.W.fnOf "_law_least" "_law_least" (defArgs s_law_least) (defBody s_law_least) (defScope s_law_least) .none kV_law_least dc_law_least pm_law_least an_law_least cd_law_least ct_law_least), sl_law_least⟩) (c_law_least : PySem.W.codeIn K cd_law_least "_law_least" = true) (k_law_least : PySem.W.keepIn K (.ref x_law_least) = true)
    (a_law_combined : PySem.W.nsIn K mainGlobals "_law_combined" = some (some (.ref x_law_combined))) (l_law_combined : K.lookup x_law_combined = some ⟨oc_law_combined, od_law_combined, .func (PySem.W.fnOf "_law_combined" "_law_combined" (defArgs s_law_combined) (defBody s_law_combined) (defScope s_law_combined) .none kV_law_combined dc_law_combined pm_law_combined an_law_combined cd_law_combined ct_law_combined), sl_law_combined⟩) (c_law_combined : PySem.W.codeIn K cd_law_combined "_law_combined" = true) (k_law_combined : PySem.W.keepIn K (.ref x_law_combined) = true)
    (a_law : PySem.W.nsIn K mainGlobals "law" = some (some (.ref x_law))) (l_law : K.lookup x_law = some ⟨oc_law, od_law, .func (PySem.W.fnOf "law" "law" (defArgs s_law) (defBody s_law) (defScope s_law) .none kV_law dc_law pm_law an_law cd_law ct_law), sl_law⟩) (c_law : PySem.W.codeIn K cd_law "law" = true) (k_law : PySem.W.keepIn K (.ref x_law) = true)
    (z_tuple : PySem.W.nsIn K mainGlobals "tuple" = some none)
    (z_zip : PySem.W.nsIn K mainGlobals "zip" = some none)
    (z_len : PySem.W.nsIn K mainGlobals "len" = some none)
    (z_min : PySem.W.nsIn K mainGlobals "min" = some none)
    (z_all : PySem.W.nsIn K mainGlobals "all" = some none)
    (z_int : PySem.W.nsIn K mainGlobals "int" = some none)
    (z_range : PySem.W.nsIn K mainGlobals "range" = some none)
    (z_abs : PySem.W.nsIn K mainGlobals "abs" = some none)
    (z_isinstance : PySem.W.nsIn K mainGlobals "isinstance" = some none)
    (z_bool : PySem.W.nsIn K mainGlobals "bool" = some none)
    (z_list : PySem.W.nsIn K mainGlobals "list" = some none)
    (z_str : PySem.W.nsIn K mainGlobals "str" = some none)
    (u_gcd : PySem.W.nsIn K mainGlobals "gcd" = some (some (.builtin "math.gcd")))
    (m_MOST_ELIMINATED : PySem.W.nsIn K mainGlobals "MOST_ELIMINATED" = some (some (.int 64 t_MOST_ELIMINATED))) :
    ∃ A : Ad, Txt K mg A ∧ A.f_law = fa ∧ (∀ (s : Shared) (v : Value), BindsTo s A.d_law ⟨[v], []⟩ [("script", v)]) := by
  have e := hfa.symm.trans (PySem.W.mg_of X G a_law)
  cases e
  have F_add := fun_mk (st := s_add) l_add c_add k_add
  have B_add := F_add.binds (ps := ["one", "other"]) fun _ _ _ _ _ _ us hl => match us, hl with | [_, _], _ => rfl
  have F_multiply := fun_mk (st := s_multiply) l_multiply c_multiply k_multiply
  have B_multiply := F_multiply.binds (ps := ["factor", "expression"]) fun _ _ _ _ _ _ us hl => match us, hl with | [_, _], _ => rfl
  have F_common_divisor := fun_mk (st := s_common_divisor) l_common_divisor c_common_divisor k_common_divisor
  have B_common_divisor := F_common_divisor.binds (ps := ["first", "numbers"]) fun _ _ _ _ _ _ us hl => match us, hl with | [_, _], _ => rfl
  have F_divided := fun_mk (st := s_divided) l_divided c_divided k_divided
  have B_divided := F_divided.binds (ps := ["expression", "divisor"]) fun _ _ _ _ _ _ us hl => match us, hl with | [_, _], _ => rfl
  have F_reduced := fun_mk (st := s_reduced) l_reduced c_reduced k_reduced
  have B_reduced := F_reduced.binds (ps := ["condition"]) fun _ _ _ _ _ _ us hl => match us, hl with | [_], _ => rfl
  have F_least_form := fun_mk (st := s_least_form) l_least_form c_least_form k_least_form
  have B_least_form := F_least_form.binds (ps := ["conditions"]) fun _ _ _ _ _ _ us hl => match us, hl with | [_], _ => rfl
  have F_always_holds := fun_mk (st := s_always_holds) l_always_holds c_always_holds k_always_holds
  have B_always_holds := F_always_holds.binds (ps := ["condition"]) fun _ _ _ _ _ _ us hl => match us, hl with | [_], _ => rfl
  have F_eliminate := fun_mk (st := s_eliminate) l_eliminate c_eliminate k_eliminate
  have B_eliminate := F_eliminate.binds (ps := ["conditions", "index"]) fun _ _ _ _ _ _ us hl => match us, hl with | [_, _], _ => rfl
  have F_law_cell := fun_mk (st := s_law_cell) l_law_cell c_law_cell k_law_cell
  have B_law_cell := F_law_cell.binds (ps := ["script", "k"]) fun _ _ _ _ _ _ us hl => match us, hl with | [_, _], _ => rfl
  have F_law_draws := fun_mk (st := s_law_draws) l_law_draws c_law_draws k_law_draws
  have B_law_draws := F_law_draws.binds (ps := ["cell", "count"]) fun _ _ _ _ _ _ us hl => match us, hl with | [_, _], _ => rfl
  have F_law_stream := fun_mk (st := s_law_stream) l_law_stream c_law_stream k_law_stream
  have B_law_stream := F_law_stream.binds (ps := ["script", "first", "count"]) fun _ _ _ _ _ _ us hl => match us, hl with | [_, _, _], _ => rfl
  have F_law_next := fun_mk (st := s_law_next) l_law_next c_law_next k_law_next
  have B_law_next := F_law_next.binds (ps := ["stream", "many"]) fun _ _ _ _ _ _ us hl => match us, hl with | [_, _], _ => rfl
  have F_law_expression := fun_mk (st := s_law_expression) l_law_expression c_law_expression k_law_expression
  have B_law_expression := F_law_expression.binds (ps := ["stream", "count", "spread", "constant"]) fun _ _ _ _ _ _ us hl => match us, hl with | [_, _, _, _], _ => rfl
  have F_law_value := fun_mk (st := s_law_value) l_law_value c_law_value k_law_value
  have B_law_value := F_law_value.binds (ps := ["expression", "point"]) fun _ _ _ _ _ _ us hl => match us, hl with | [_, _], _ => rfl
  have F_law_is_integer := fun_mk (st := s_law_is_integer) l_law_is_integer c_law_is_integer k_law_is_integer
  have B_law_is_integer := F_law_is_integer.binds (ps := ["actual"]) fun _ _ _ _ _ _ us hl => match us, hl with | [_], _ => rfl
  have F_law_same := fun_mk (st := s_law_same) l_law_same c_law_same k_law_same
  have B_law_same := F_law_same.binds (ps := ["actual", "expected"]) fun _ _ _ _ _ _ us hl => match us, hl with | [_, _], _ => rfl
  have F_law_gcd := fun_mk (st := s_law_gcd) l_law_gcd c_law_gcd k_law_gcd
  have B_law_gcd := F_law_gcd.binds (ps := ["numbers"]) fun _ _ _ _ _ _ us hl => match us, hl with | [_], _ => rfl
  have F_law_reduced := fun_mk (st := s_law_reduced) l_law_reduced c_law_reduced k_law_reduced
  have B_law_reduced := F_law_reduced.binds (ps := ["condition"]) fun _ _ _ _ _ _ us hl => match us, hl with | [_], _ => rfl
  have F_law_least := fun_mk (st := s_law_least) l_law_least c_law_least k_law_least
  have B_law_least := F_law_least.binds (ps := ["conditions"]) fun _ _ _ _ _ _ us hl => match us, hl with | [_], _ => rfl
  have F_law_combined := fun_mk (st := s_law_combined) l_law_combined c_law_combined k_law_combined
  have B_law_combined := F_law_combined.binds (ps := ["lower", "upper", "index"]) fun _ _ _ _ _ _ us hl => match us, hl with | [_, _, _], _ => rfl
  have F_law := fun_mk (st := s_law) l_law c_law k_law
  have B_law := F_law.binds (ps := ["script"]) fun _ _ _ _ _ _ us hl => match us, hl with | [_], _ => rfl
  exact ⟨{ f_add := x_add, f_multiply := x_multiply, f_common_divisor := x_common_divisor, f_divided := x_divided, f_reduced := x_reduced, f_least_form := x_least_form, f_always_holds := x_always_holds, f_eliminate := x_eliminate, f_law_cell := x_law_cell, f_law_draws := x_law_draws, f_law_stream := x_law_stream, f_law_next := x_law_next, f_law_expression := x_law_expression, f_law_value := x_law_value, f_law_is_integer := x_law_is_integer, f_law_same := x_law_same, f_law_gcd := x_law_gcd, f_law_reduced := x_law_reduced, f_law_least := x_law_least, f_law_combined := x_law_combined, f_law := fa, d_add := PySem.W.fnOf "add" "add" (defArgs s_add) (defBody s_add) (defScope s_add) .none kV_add dc_add pm_add an_add cd_add ct_add, d_multiply := PySem.W.fnOf "multiply" "multiply" (defArgs s_multiply) (defBody s_multiply) (defScope s_multiply) .none kV_multiply dc_multiply pm_multiply an_multiply cd_multiply ct_multiply, d_common_divisor := PySem.W.fnOf "common_divisor" "common_divisor" (defArgs s_common_divisor) (defBody s_common_divisor) (defScope s_common_divisor) .none kV_common_divisor dc_common_divisor pm_common_divisor an_common_divisor cd_common_divisor ct_common_divisor, d_divided := PySem.W.fnOf "divided" "divided" (defArgs s_divided) (defBody s_divided) (defScope s_divided) .none kV_divided dc_divided pm_divided an_divided cd_divided ct_divided, d_reduced := PySem.W.fnOf "reduced" "reduced" (defArgs s_reduced) (defBody s_reduced) (defScope s_reduced) .none kV_reduced dc_reduced pm_reduced an_reduced cd_reduced ct_reduced, d_least_form := PySem.W.fnOf "least_form" "least_form" (defArgs s_least_form) (defBody s_least_form) (defScope s_least_form) .none kV_least_form dc_least_form pm_least_form an_least_form cd_least_form ct_least_form, d_always_holds := PySem.W.fnOf "always_holds" "always_holds" (defArgs s_always_holds) (defBody s_always_holds) (defScope s_always_holds) .none kV_always_holds dc_always_holds pm_always_holds an_always_holds cd_always_holds ct_always_holds, d_eliminate := PySem.W.fnOf "eliminate" "eliminate" (defArgs s_eliminate) (defBody s_eliminate) (defScope s_eliminate) .none kV_eliminate dc_eliminate pm_eliminate an_eliminate cd_eliminate ct_eliminate, d_law_cell := PySem.W.fnOf "_law_cell" "_law_cell" (defArgs s_law_cell) (defBody s_law_cell) (defScope s_law_cell) .none kV_law_cell dc_law_cell pm_law_cell an_law_cell cd_law_cell ct_law_cell, d_law_draws := PySem.W.fnOf "_law_draws" "_law_draws" (defArgs s_law_draws) (defBody s_law_draws) (defScope s_law_draws) .none kV_law_draws dc_law_draws pm_law_draws an_law_draws cd_law_draws ct_law_draws, d_law_stream := PySem.W.fnOf "_law_stream" "_law_stream" (defArgs s_law_stream) (defBody s_law_stream) (defScope s_law_stream) .none kV_law_stream dc_law_stream pm_law_stream an_law_stream cd_law_stream ct_law_stream, d_law_next := PySem.W.fnOf "_law_next" "_law_next" (defArgs s_law_next) (defBody s_law_next) (defScope s_law_next) .none kV_law_next dc_law_next pm_law_next an_law_next cd_law_next ct_law_next, d_law_expression := PySem.W.fnOf "_law_expression" "_law_expression" (defArgs s_law_expression) (defBody s_law_expression) (defScope s_law_expression) .none kV_law_expression dc_law_expression pm_law_expression an_law_expression cd_law_expression ct_law_expression, d_law_value := PySem.W.fnOf "_law_value" "_law_value" (defArgs s_law_value) (defBody s_law_value) (defScope s_law_value) .none kV_law_value dc_law_value pm_law_value an_law_value cd_law_value ct_law_value, d_law_is_integer := PySem.W.fnOf "_law_is_integer" "_law_is_integer" (defArgs s_law_is_integer) (defBody s_law_is_integer) (defScope s_law_is_integer) .none kV_law_is_integer dc_law_is_integer pm_law_is_integer an_law_is_integer cd_law_is_integer ct_law_is_integer, d_law_same := PySem.W.fnOf "_law_same" "_law_same" (defArgs s_law_same) (defBody s_law_same) (defScope s_law_same) .none kV_law_same dc_law_same pm_law_same an_law_same cd_law_same ct_law_same, d_law_gcd := PySem.W.fnOf "_law_gcd" "_law_gcd" (defArgs s_law_gcd) (defBody s_law_gcd) (defScope s_law_gcd) .none kV_law_gcd dc_law_gcd pm_law_gcd an_law_gcd cd_law_gcd ct_law_gcd, d_law_reduced := PySem.W.fnOf "_law_reduced" "_law_reduced" (defArgs s_law_reduced) (defBody s_law_reduced) (defScope s_law_reduced) .none kV_law_reduced dc_law_reduced pm_law_reduced an_law_reduced cd_law_reduced ct_law_reduced, d_law_least := PySem.W.fnOf "_law_least" "_law_least" (defArgs s_law_least) (defBody s_law_least) (defScope s_law_least) .none kV_law_least dc_law_least pm_law_least an_law_least cd_law_least ct_law_least, d_law_combined := PySem.W.fnOf "_law_combined" "_law_combined" (defArgs s_law_combined) (defBody s_law_combined) (defScope s_law_combined) .none kV_law_combined dc_law_combined pm_law_combined an_law_combined cd_law_combined ct_law_combined, d_law := PySem.W.fnOf "law" "law" (defArgs s_law) (defBody s_law) (defScope s_law) .none kV_law dc_law pm_law an_law cd_law ct_law, t_MOST_ELIMINATED := t_MOST_ELIMINATED },
   { b_tuple := PySem.W.mg_none_of X G z_tuple, b_zip := PySem.W.mg_none_of X G z_zip, b_len := PySem.W.mg_none_of X G z_len, b_min := PySem.W.mg_none_of X G z_min, b_all := PySem.W.mg_none_of X G z_all, b_int := PySem.W.mg_none_of X G z_int, b_range := PySem.W.mg_none_of X G z_range, b_abs := PySem.W.mg_none_of X G z_abs, b_isinstance := PySem.W.mg_none_of X G z_isinstance, b_bool := PySem.W.mg_none_of X G z_bool, b_list := PySem.W.mg_none_of X G z_list, b_str := PySem.W.mg_none_of X G z_str, u_gcd := PySem.W.mg_of X G u_gcd, g_add := PySem.W.mg_of X G a_add, F_add := F_add, B_add := B_add, g_multiply := PySem.W.mg_of X G a_multiply, F_multiply := F_multiply, B_multiply := B_multiply, g_common_divisor := PySem.W.mg_of X G a_common_divisor, F_common_divisor := F_common_divisor, B_common_divisor := B_common_divisor, g_divided := PySem.W.mg_of X G a_divided, F_divided := F_divided, B_divided := B_divided, g_reduced := PySem.W.mg_of X G a_reduced, F_reduced := F_reduced, B_reduced := B_reduced, g_least_form := PySem.W.mg_of X G a_least_form, F_least_form := F_least_form, B_least_form := B_least_form, g_always_holds := PySem.W.mg_of X G a_always_holds, F_always_holds := F_always_holds, B_always_holds := B_always_holds, g_eliminate := PySem.W.mg_of X G a_eliminate, F_eliminate := F_eliminate, B_eliminate := B_eliminate, g_law_cell := PySem.W.mg_of X G a_law_cell, F_law_cell := F_law_cell, B_law_cell := B_law_cell, g_law_draws := PySem.W.mg_of X G a_law_draws, F_law_draws := F_law_draws, B_law_draws := B_law_draws, g_law_stream := PySem.W.mg_of X G a_law_stream, F_law_stream := F_law_stream, B_law_stream := B_law_stream, g_law_next := PySem.W.mg_of X G a_law_next, F_law_next := F_law_next, B_law_next := B_law_next, g_law_expression := PySem.W.mg_of X G a_law_expression, F_law_expression := F_law_expression, B_law_expression := B_law_expression, g_law_value := PySem.W.mg_of X G a_law_value, F_law_value := F_law_value, B_law_value := B_law_value, g_law_is_integer := PySem.W.mg_of X G a_law_is_integer, F_law_is_integer := F_law_is_integer, B_law_is_integer := B_law_is_integer, g_law_same := PySem.W.mg_of X G a_law_same, F_law_same := F_law_same, B_law_same := B_law_same, g_law_gcd := PySem.W.mg_of X G a_law_gcd, F_law_gcd := F_law_gcd, B_law_gcd := B_law_gcd, g_law_reduced := PySem.W.mg_of X G a_law_reduced, F_law_reduced := F_law_reduced, B_law_reduced := B_law_reduced, g_law_least := PySem.W.mg_of X G a_law_least, F_law_least := F_law_least, B_law_least := B_law_least, g_law_combined := PySem.W.mg_of X G a_law_combined, F_law_combined := F_law_combined, B_law_combined := B_law_combined, g_law := PySem.W.mg_of X G a_law, F_law := F_law, B_law := B_law, g_MOST_ELIMINATED := PySem.W.mg_of X G m_MOST_ELIMINATED }, rfl, fun s v => .of_eq rfl⟩
end
end K81
open PySem PySem.W PyProof.Rows in
set_option maxRecDepth 100000 in
set_option maxHeartbeats 0 in
theorem PySem.Challenge.cw_loopworks_k81_elimination_of_conditions_holds : PySem.Challenge.rw_loopworks_k81_elimination_of_conditions.Holds := by
  w_on; o_law; k_head; (case hw => w_witness2)
  k_fill
  refine L2.walk_ofB (l := PySem.Challenge.rw_loopworks_k81_elimination_of_conditions) (n := 63) (k := 5) (x := "script") (CX := fun _ => L2.CX0) (sp := fun w => K81.sp_law _) rfl (by decide) rfl ⟨rfl, by decide, by decide⟩ (fun w h Y => PySem.W.kIn_of Y) ?F (fun _ H a ns hl hb hO hS => K81.sp_law_of hl hb hO hS) (fun _ _ _ _ _ h => h)
  case F =>
    intro w mg fa h KX G hmg
    obtain ⟨A, T, e, hb⟩ : ∃ A : K81.Ad, K81.Txt _ mg A ∧ A.f_law = fa ∧ (∀ (s : Shared) (v : Value), BindsTo s A.d_law ⟨[v], []⟩ [("script", v)]) := by
      refine' K81.all_mk KX G hmg ?a_add ?l_add ?c_add ?k_add ?a_multiply ?l_multiply ?c_multiply ?k_multiply ?a_common_divisor ?l_common_divisor ?c_common_divisor ?k_common_divisor ?a_divided ?l_divided ?c_divided ?k_divided ?a_reduced ?l_reduced ?c_reduced ?k_reduced ?a_least_form ?l_least_form ?c_least_form ?k_least_form ?a_always_holds ?l_always_holds ?c_always_holds ?k_always_holds ?a_eliminate ?l_eliminate ?c_eliminate ?k_eliminate ?a_law_cell ?l_law_cell ?c_law_cell ?k_law_cell ?a_law_draws ?l_law_draws ?c_law_draws ?k_law_draws ?a_law_stream ?l_law_stream ?c_law_stream ?k_law_stream ?a_law_next ?l_law_next ?c_law_next ?k_law_next ?a_law_expression ?l_law_expression ?c_law_expression ?k_law_expression ?a_law_value ?l_law_value ?c_law_value ?k_law_value ?a_law_is_integer ?l_law_is_integer ?c_law_is_integer ?k_law_is_integer ?a_law_same ?l_law_same ?c_law_same ?k_law_same ?a_law_gcd ?l_law_gcd ?c_law_gcd ?k_law_gcd ?a_law_reduced ?l_law_reduced ?c_law_reduced ?k_law_reduced ?a_law_least ?l_law_least ?c_law_least ?k_law_least ?a_law_combined ?l_law_combined ?c_law_combined ?k_law_combined ?a_law ?l_law ?c_law ?k_law ?z_tuple ?z_zip ?z_len ?z_min ?z_all ?z_int ?z_range ?z_abs ?z_isinstance ?z_bool ?z_list ?z_str ?u_gcd ?m_MOST_ELIMINATED
      (case a_add => k_is)
      (case l_add => k_is)
      (case c_add => k_is)
      (case k_add => k_is)
      (case a_multiply => k_is)
      (case l_multiply => k_is)
      (case c_multiply => k_is)
      (case k_multiply => k_is)
      (case a_common_divisor => k_is)
      (case l_common_divisor => k_is)
      (case c_common_divisor => k_is)
      (case k_common_divisor => k_is)
      (case a_divided => k_is)
      (case l_divided => k_is)
      (case c_divided => k_is)
      (case k_divided => k_is)
      (case a_reduced => k_is)
      (case l_reduced => k_is)
      (case c_reduced => k_is)
      (case k_reduced => k_is)
      (case a_least_form => k_is)
      (case l_least_form => k_is)
      (case c_least_form => k_is)
      (case k_least_form => k_is)
      (case a_always_holds => k_is)
      (case l_always_holds => k_is)
      (case c_always_holds => k_is)
      (case k_always_holds => k_is)
      (case a_eliminate => k_is)
      (case l_eliminate => k_is)
      (case c_eliminate => k_is)
      (case k_eliminate => k_is)
      (case a_law_cell => k_is)
      (case l_law_cell => k_is)
      (case c_law_cell => k_is)
      (case k_law_cell => k_is)
      (case a_law_draws => k_is)
      (case l_law_draws => k_is)
      (case c_law_draws => k_is)
      (case k_law_draws => k_is)
      (case a_law_stream => k_is)
      (case l_law_stream => k_is)
      (case c_law_stream => k_is)
      (case k_law_stream => k_is)
      (case a_law_next => k_is)
      (case l_law_next => k_is)
      (case c_law_next => k_is)
      (case k_law_next => k_is)
      (case a_law_expression => k_is)
      (case l_law_expression => k_is)
      (case c_law_expression => k_is)
      (case k_law_expression => k_is)
      (case a_law_value => k_is)
      (case l_law_value => k_is)
      (case c_law_value => k_is)
      (case k_law_value => k_is)
      (case a_law_is_integer => k_is)
      (case l_law_is_integer => k_is)
      (case c_law_is_integer => k_is)
      (case k_law_is_integer => k_is)
      (case a_law_same => k_is)
      (case l_law_same => k_is)
      (case c_law_same => k_is)
      (case k_law_same => k_is)
      (case a_law_gcd => k_is)
      (case l_law_gcd => k_is)
      (case c_law_gcd => k_is)
      (case k_law_gcd => k_is)
      (case a_law_reduced => k_is)
      (case l_law_reduced => k_is)
      (case c_law_reduced => k_is)
      (case k_law_reduced => k_is)
      (case a_law_least => k_is)
      (case l_law_least => k_is)
      (case c_law_least => k_is)
      (case k_law_least => k_is)
      (case a_law_combined => k_is)
      (case l_law_combined => k_is)
      (case c_law_combined => k_is)
      (case k_law_combined => k_is)
      (case a_law => k_is)
      (case l_law => k_is)
      (case c_law => k_is)
      (case k_law => k_is)
      (case z_tuple => k_is)
      (case z_zip => k_is)
      (case z_len => k_is)
      (case z_min => k_is)
      (case z_all => k_is)
      (case z_int => k_is)
      (case z_range => k_is)
      (case z_abs => k_is)
      (case z_isinstance => k_is)
      (case z_bool => k_is)
      (case z_list => k_is)
      (case z_str => k_is)
      (case u_gcd => k_is)
      (case m_MOST_ELIMINATED => k_is)
    subst e
    exact ⟨A.d_law, hb, fun base _ _ => K81.ok_law T⟩
