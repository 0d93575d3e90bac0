import PyProof.Rows.All
import Wide.All
import OpenK.AllK
import Wide.FinOn
import HandS.ForMost
import HandS.Zip
import HandS.Wide
import HandS.TupAny
import HandS.IsInst
import HandS.EndBits
import HandS.Walk
import HandS.More
import HandS.RaiseMore
import HandS.SetIn
import PySem.Challenge.RW_loopworks_k02_signs_written
set_option Elab.async false
set_option linter.all false
set_option maxRecDepth 100000
set_option maxHeartbeats 4000000
namespace Bs
open PySem L2

/-! ### loops as one word -/
def Loop (J : It) (g : TG) (tb : TS) (D : Ends) (σ : St) (H1 : Hp) : Prop := ∃ W : Nat → Nat → St → Hp → Prop, (∃ m, W 0 m σ H1) ∧ ∀ i m σ H, W i m σ H →
  (J.stop i H ∧ D.nx σ H) ∨ (J.go i H ∧ ∃ N : St → Hp → Prop, (∀ σ' H', N σ' H' → ∃ m', m' < m ∧ W (i + 1) m' σ' H') ∧ ∀ x H', J.yld i H x H' → g x σ H' fun σ2 H2 => tb { D with nx := N, ct := N, bk := D.nx } σ2 H2)
theorem for_eq (wi : TI) (g : TG) (tb : TS) (D : Ends) (σ : St) (H : Hp) : tFor wi g tb D σ H = wi σ H fun J H1 => Loop J g tb D σ H1 := rfl
def LoopC (J : It) (g : TG) (tt : TT) (te : TE) (vs : List Nat) (σ : St) (H1 : Hp) (D : Addr) (Qd : Hp → Prop) : Prop := ∃ W : Nat → Nat → Hp → Prop, (∃ m, W 0 m (upd H1 D (.lst []))) ∧ ∀ i m H, W i m H →
  (J.stop i H ∧ Qd H) ∨ (J.go i H ∧ ∃ Nx : Hp → Prop, (∀ H', Nx H' → ∃ m', m' < m ∧ W (i + 1) m' H') ∧ ∀ x H', J.yld i H x H' → g x (wipe σ vs) H' fun σ2 H2 => wipe σ2 vs = wipe σ vs ∧ tt σ2 H2 fun b H3 =>
    if b = true then te σ2 H3 fun y H4 => ∃ acc, H4 D = some (.lst acc) ∧ acc.length < sizeLine ∧ Nx (upd H4 D (.lst (acc ++ [y]))) else Nx H3)
theorem lc_eq (wi : TI) (g : TG) (tt : TT) (te : TE) (vs : List Nat) (σ : St) (H : Hp) (Q : VK) : tLc wi g tt te vs σ H Q = wi σ H fun J H1 => ∀ D, H1 D = none → LoopC J g tt te vs σ H1 D (fun H => Q (.ref D) H) := rfl
def LoopW (c : TT) (tb : TS) (D : Ends) (σ : St) (H : Hp) : Prop := tWhile c tb D σ H
theorem while_eq (c : TT) (tb : TS) (D : Ends) (σ : St) (H : Hp) : tWhile c tb D σ H = LoopW c tb D σ H := rfl

theorem test_eq (t : TE) (σ : St) (H : Hp) (Q : Bool → Hp → Prop) : tTest t σ H Q = t σ H fun x H' => ∃ k, x = .bl k ∧ Q k H' := rfl
theorem ex_bl {b : Bool} {Q : Bool → Prop} : (∃ k, V.bl b = .bl k ∧ Q k) = Q b := propext ⟨fun ⟨k, e, q⟩ => by cases e; exact q, fun q => ⟨b, rfl, q⟩⟩
theorem ex_int {i : Int} {Q : Int → Prop} : (∃ k, V.int i = .int k ∧ Q k) = Q i := propext ⟨fun ⟨k, e, q⟩ => by cases e; exact q, fun q => ⟨i, rfl, q⟩⟩

theorem cxK {CX : CXT} {P : Program} {w : World} {K : PySem.W.Frag} {mg : Str → Option Value} {base : Heap} {N : List Str} {qual : Str} {scope : Scope} {f : Addr} {cd : Value} {A : Around} {outer : List Env} {s : Shared} {H : Hp} {E : XK} : (cxOf CX P w K mg base N qual scope f cd A outer s H E).K = K := rfl
/-! ### sizes -/
def Sz (n : Nat) (x : Int) : Prop := x.natAbs < 2 ^ n
theorem Sz.mono {a b : Nat} {x : Int} (h : Sz a x) (l : a ≤ b) : Sz b x := Nat.lt_of_lt_of_le h (Nat.pow_le_pow_right (by decide) l)
theorem Sz.add {a : Nat} {x y : Int} (h : Sz a x) (k : Sz a y) : Sz (a + 1) (x + y) := by
  unfold Sz at *
  rw [Nat.pow_succ]
  omega
theorem Sz.sub {a : Nat} {x y : Int} (h : Sz a x) (k : Sz a y) : Sz (a + 1) (x - y) := by
  unfold Sz at *
  rw [Nat.pow_succ]
  omega
theorem Sz.mul {a b : Nat} {x y : Int} (h : Sz a x) (k : Sz b y) : Sz (a + b) (x * y) := wide_lt h k
theorem Sz.zero (a : Nat) : Sz a 0 := Nat.pow_pos (by decide)
theorem Sz.bits {n : Int} {b : Nat} (h : Builtin.Int.intBits n ≤ b) : Sz (b + 1) n := by
  unfold Sz
  unfold Builtin.Int.intBits at h
  by_cases e : n.natAbs = 0
  · rw [e]; exact Nat.pow_pos (by decide)
  · have l : n.natAbs < 2 ^ (n.natAbs.log2 + 1) := Nat.lt_log2_self
    refine Nat.lt_of_lt_of_le l (Nat.pow_le_pow_right (by decide) ?_)
    have en : (n == 0) = false := by
      rw [beq_eq_false_iff_ne]
      intro z
      subst z
      exact e rfl
    rw [en] at h
    have h' : n.natAbs.log2 + 1 ≤ b := h
    omega
def CMulX (i j : Int) : Prop := ∃ a b : Nat, Sz a i ∧ Sz b j ∧ a + b ≤ 100000000
theorem log2_le_of {n a : Nat} (h : n < 2 ^ a) : n.log2 ≤ a := by
  by_cases e : n = 0
  · subst e; exact Nat.zero_le _
  · exact Nat.le_of_lt ((Nat.log2_lt e).mpr h)
theorem CMulX.ok {i j : Int} (h : CMulX i j) : IntMulOk i j := by
  obtain ⟨a, b, ha, hb, hab⟩ := h
  have q : ∀ x : Int, Builtin.Int.intBits x ≤ x.natAbs.log2 + 1 := fun x => by
    unfold Builtin.Int.intBits
    split <;> omega
  have h1 := q i
  have h2 := q j
  have h3 := log2_le_of ha
  have h4 := log2_le_of hb
  have e : bitsLine = 134217728 := by decide
  unfold IntMulOk
  intro z
  rw [Bool.and_eq_true] at z
  have z2 := z.2
  unfold Builtin.Int.intTooBig at z2
  have z3 := of_decide_eq_true z2
  rw [e] at z3
  omega
theorem op_mulX {X : Cx} : OpR X (binaryOp .Mult) (rI CMulX fun i j => .int (i * j)) := opI fun _ _ _ _ _ _ _ hc q => PyProof.Rows.mul_int q hc.ok
/-! ### loops and comprehensions over a walk -/
theorem loop_it {J : It} {n : Nat} {G : Hp → Prop} {Y : Nat → Hp → V → Hp → Prop} (w : Walk J n G Y) {g : TG} {tb : TS} {D : Ends} {σ : St} {H : Hp} (Pv : Nat → St → Hp → Prop) (h0 : Pv 0 σ H) (hG : ∀ i σ H, i ≤ n → Pv i σ H → G H)
    (hs : ∀ i x σ H H', i < n → Pv i σ H → Y i H x H' → g x σ H' fun σ2 H2 => tb { D with nx := Pv (i + 1), ct := Pv (i + 1), bk := D.nx } σ2 H2) (hd : ∀ σ H, Pv n σ H → D.nx σ H) : Loop J g tb D σ H := for_it w Pv h0 hG hs hd
theorem loopc_it {J : It} {n : Nat} {G : Hp → Prop} {Y : Nat → Hp → V → Hp → Prop} (w : Walk J n G Y) {g : TG} {tt : TT} {te : TE} {vs : List Nat} {σ : St} {H1 : Hp} {D : Addr} {Qd : Hp → Prop} (Pv : Nat → Hp → Prop) (h0 : Pv 0 (upd H1 D (.lst []))) (hG : ∀ i H, i ≤ n → Pv i H → G H)
    (hs : ∀ i x H H', i < n → Pv i H → Y i H x H' → g x (wipe σ vs) H' fun σ2 H2 => wipe σ2 vs = wipe σ vs ∧ tt σ2 H2 fun b H3 =>
      if b = true then te σ2 H3 fun y H4 => ∃ acc, H4 D = some (.lst acc) ∧ acc.length < sizeLine ∧ Pv (i + 1) (upd H4 D (.lst (acc ++ [y]))) else Pv (i + 1) H3) (hd : ∀ H, Pv n H → Qd H) : LoopC J g tt te vs σ H1 D Qd := lc_it w Pv h0 hG hs hd
theorem same_upd {H : Hp} {p : Addr} {o : HO} (h : H p = none) : Same H (upd H p o) := fun b x e => by
  rw [upd_ne (ne_of_none e h)]
  exact e
theorem same_upd2 {H H' : Hp} {p : Addr} {o : HO} (e : Same H H') (h : H p = none) : Same H (upd H' p o) := fun b x q => by
  rw [upd_ne (ne_of_none q h)]
  exact e _ _ q
/-- [e for ..], without a test, whose element is told by the turn -/
theorem lc_pure {J : It} {n : Nat} {G : Hp → Prop} {Y : Nat → Hp → V → Hp → Prop} (w : Walk J n G Y) {g : TG} {te : TE} {vs : List Nat} {σ : St} {H1 : Hp} {D : Addr} {Qd : Hp → Prop} (f : Nat → V) (hD : H1 D = none) (hn : n ≤ 1000)
    (hG : ∀ H', Same H1 H' → G H') (hY : ∀ i H x H', Y i H x H' → Same H H')
    (hs : ∀ i x H H' (R : VK), i < n → Same H1 H' → Y i H x H' → (∀ H4, Same H' H4 → R (f i) H4) → g x (wipe σ vs) H' fun σ2 H2 => wipe σ2 vs = wipe σ vs ∧ te σ2 H2 R)
    (hd : ∀ H', Same H1 H' → H' D = some (.lst ((List.range n).map f)) → Qd H') : LoopC J g tYes te vs σ H1 D Qd := by
  refine loopc_it w (fun i H => Same H1 H ∧ H D = some (.lst ((List.range i).map f))) ⟨same_upd hD, upd_same⟩ (fun i H _ p => hG H p.1) (fun i x H H' hi p y => ?_) (fun H p => hd H p.1 p.2)
  have hYs := hY _ _ _ _ y
  have q := hs i x H H' (fun y H4 => ∃ acc, H4 D = some (.lst acc) ∧ acc.length < sizeLine ∧ (Same H1 (upd H4 D (.lst (acc ++ [y]))) ∧ upd H4 D (.lst (acc ++ [y])) D = some (.lst ((List.range (i + 1)).map f)))) hi (p.1.trans hYs) y (fun H4 s4 => ?_)
  · exact q
  · refine ⟨_, s4 _ _ (hYs _ _ p.2), ?_, same_upd2 (p.1.trans (hYs.trans s4)) hD, ?_⟩
    · rw [List.length_map, List.length_range]
      exact small1000 (by omega)
    · rw [upd_same, List.range_succ, List.map_append]
      rfl
theorem range_getD {α : Type} (d : α) : ∀ ys : List α, (List.range ys.length).map (fun i => ys[i]?.getD d) = ys := fun ys => by
  refine List.ext_getElem? fun i => ?_
  rw [List.getElem?_map]
  by_cases h : i < ys.length
  · rw [List.getElem?_range h, List.getElem?_eq_getElem h]
    simp [h]
  · rw [List.getElem?_eq_none (by rw [List.length_range]; omega), List.getElem?_eq_none (by omega)]
    rfl
/-- the same by the list that comes out -/
theorem lc_ys {J : It} {n : Nat} {G : Hp → Prop} {Y : Nat → Hp → V → Hp → Prop} (w : Walk J n G Y) {g : TG} {te : TE} {vs : List Nat} {σ : St} {H1 : Hp} {D : Addr} {Qd : Hp → Prop} (ys : List V) (hD : H1 D = none) (hn : n ≤ 1000) (hl : ys.length = n)
    (hG : ∀ H', Same H1 H' → G H') (hY : ∀ i H x H', Y i H x H' → Same H H')
    (hs : ∀ i x y H H' (R : VK), i < n → ys[i]? = some y → Same H1 H' → Y i H x H' → (∀ H4, Same H' H4 → R y H4) → g x (wipe σ vs) H' fun σ2 H2 => wipe σ2 vs = wipe σ vs ∧ te σ2 H2 R)
    (hd : ∀ H', Same H1 H' → H' D = some (.lst ys) → Qd H') : LoopC J g tYes te vs σ H1 D Qd := by
  refine lc_pure w (fun i => ys[i]?.getD .non) hD hn hG hY (fun i x H H' R hi s1 y k => ?_) (fun H' s' e => hd H' s' ?_)
  · have hy : ys[i]? = some (ys[i]?.getD .non) := by
      rw [List.getElem?_eq_getElem (by omega)]
      rfl
    exact hs i x _ H H' R hi hy s1 y k
  · rw [← hl, range_getD] at e
    exact e
theorem walk_zipT {K : PySem.W.Frag} {a b : Addr} {xs ys : List V} {n : Nat} (hn : n = min xs.length ys.length) : Walk (RZ.ItzT K a b) n (fun H => SqT K H a xs ∧ SqT K H b ys) (YPair (fun i => xs[i]?) (fun i => ys[i]?)) := by
  subst hn
  refine ⟨fun i _ hi q => ?_, fun _ q => ⟨xs, ys, q.1, q.2, by omega⟩, fun i H v H' _ q y => ?_⟩
  · have h1 : i < xs.length := by omega
    have h2 : i < ys.length := by omega
    exact ⟨xs, ys, xs[i], ys[i], q.1, q.2, by simp [h1], by simp [h2]⟩
  · obtain ⟨T, x, z, h1, h2, h3, h4, h5⟩ := y
    exact ⟨T, x, z, h1, h2, h3, h4 xs q.1, h5 ys q.2⟩
theorem ypair_same {xs ys : Nat → Option V} : ∀ (i : Nat) (H : Hp) (x : V) (H' : Hp), YPair xs ys i H x H' → Same H H' := fun i H x H' ⟨T, _, _, _, n, e, _⟩ => by
  subst e
  exact same_upd n
theorem yat_same {xs : List V} : ∀ (i : Nat) (H : Hp) (x : V) (H' : Hp), YAt xs i H x H' → Same H H' := fun i H x H' ⟨e, _⟩ => by
  subst e
  exact Same.refl _
theorem yfn_same {f : Nat → V} : ∀ (i : Nat) (H : Hp) (x : V) (H' : Hp), YFn f i H x H' → Same H H' := fun i H x H' ⟨e, _⟩ => by
  subst e
  exact Same.refl _
theorem sameT {K : PySem.W.Frag} {H H' : Hp} {a : Addr} {xs : List V} (e : Same H H') (h : SqT K H a xs) : SqT K H' a xs := by
  rcases h with (h | ⟨o, h⟩) | h
  · exact .inl (.inl (e _ _ h))
  · exact .inl (.inr ⟨o, e _ _ h⟩)
  · exact .inr h
theorem scal_ii (a b : Int) : scal (.int a) (.int b) = true := rfl
theorem scal_ss (a b : Str) : scal (.str a) (.str b) = true := rfl
theorem scal_bb (a b : Bool) : scal (.bl a) (.bl b) = true := rfl
theorem dec_ii (a b : Int) : decide (V.int a = V.int b) = decide (a = b) := decide_eq_decide.mpr (by rw [V.int.injEq])
theorem dec_ss (a b : Str) : decide (V.str a = V.str b) = decide (a = b) := decide_eq_decide.mpr (by rw [V.str.injEq])
theorem dec_bb (a b : Bool) : decide (V.bl a = V.bl b) = decide (a = b) := decide_eq_decide.mpr (by rw [V.bl.injEq])
theorem walk_range0 {n : Nat} : Walk (Itr 0 n) n (fun _ => True) (fun i H x H' => H' = H ∧ x = V.int ((i : Nat) : Int)) :=
  ⟨fun _ _ hi _ => hi, fun _ _ => Nat.le_refl _, fun _ _ _ _ _ _ y => ⟨y.1, by rw [y.2, Int.zero_add]⟩⟩
theorem yat_at {xs : List V} {i : Nat} {H H' : Hp} {x : V} (y : YAt xs i H x H') : H' = H ∧ xs[i]? = some x := y
theorem isi {K : PySem.W.Frag} {H : Hp} {x : V} {a b : String} {r : Bool} {Q : VK} (ty : TyX K H x (.type a)) (hk : kitB a b = some r) (q : Q (.bl r) H) : rIsi K [x, .ty b] H Q :=
  ⟨x, .ty b, .type a, .type b, r, rfl, .ty b, ty, kit_ty hk, q⟩
theorem ty_int {K : PySem.W.Frag} {H : Hp} {i : Int} : TyX K H (.int i) (.type "int") := .base (.int i)
theorem ty_bl {K : PySem.W.Frag} {H : Hp} {i : Bool} : TyX K H (.bl i) (.type "bool") := .base (.bl i)
theorem ty_str {K : PySem.W.Frag} {H : Hp} {i : Str} : TyX K H (.str i) (.type "str") := .base (.str i)
theorem ty_tup {K : PySem.W.Frag} {H : Hp} {a : Addr} {xs : List V} (h : SqT K H a xs) : TyX K H (.ref a) (.type "tuple") := by
  rcases h with (h | ⟨o, h⟩) | ⟨o, _, _, h, c, _⟩
  · exact .base (.tup h)
  · exact .fTuple h
  · exact .kTuple h c
theorem ty_lst {K : PySem.W.Frag} {H : Hp} {a : Addr} {xs : List V} (h : SqL K H a xs) : TyX K H (.ref a) (.type "list") := by
  rcases h with (h | ⟨o, h⟩) | ⟨o, _, _, h, c, _⟩
  · exact .base (.lst h)
  · exact .base (.frz h)
  · exact .kList h c
theorem sqT_upd {K : PySem.W.Frag} {H : Hp} {p b : Addr} {o : HO} {xs ys : List V} (hp : H p = some (.lst xs)) (h : SqT K H b ys) : SqT K (upd H p o) b ys := by
  rcases h with (h | ⟨o, h⟩) | h
  · exact .inl (.inl (by rw [upd_ne (ne_of h hp (by intro z; cases z))]; exact h))
  · exact .inl (.inr ⟨o, by rw [upd_ne (ne_of h hp (by intro z; cases z))]; exact h⟩)
  · exact .inr h
end Bs
namespace Bs
open PySem L2 TL

/-! ### texts -/
theorem call_str_any {X : Cx} : CallR X (.type "str") (fun xs H Q => (∃ i, xs = [.int i] ∧ i.natAbs.log2 < 1920 ∧ Q (.str (toString i)) H) ∨ ∃ a, xs = [.str a] ∧ Q (.str a) H) := by
  intro pins s σ H xs us Q I r h
  rcases h with h | h
  · exact call_str_int pins s σ H xs us Q I r h
  · exact SkE.call_str_str pins s σ H xs us Q I r h
theorem call_intI {X : Cx} : CallR X (.type "int") (fun xs H Q => ∃ i, xs = [.int i] ∧ Q (.int i) H) := by
  intro pins s σ H xs us Q I r h
  exact call_int1 pins s σ H xs us Q I r (.inl h)
/-- z repeated n times -/
def rep (z : Str) (n : Nat) : Str := ⟨((List.replicate n (tl z)).flatten).toArray⟩
theorem tl_rep (z : Str) (n : Nat) : tl (rep z n) = (List.replicate n (tl z)).flatten := rfl
theorem rep_len (z : Str) (n : Nat) : (rep z n).length = z.length * n := by
  rw [len_tl, len_tl, tl_rep, List.length_flatten, List.map_replicate]
  generalize (tl z).length = k
  induction n with
  | zero => rfl
  | succ n ih => rw [List.replicate_succ, List.sum_cons, ih, Nat.mul_succ]; omega
theorem foldl_app (l : List (Array Nat)) : ∀ a : Array Nat, (l.foldl (· ++ ·) a).toList = a.toList ++ (l.map Array.toList).flatten := by
  induction l with
  | nil => intro a; simp
  | cons x r ih => intro a; simp [ih, List.append_assoc]
theorem mul_rep (z : Str) (n : Nat) : Txt.mul z (n : Int) = rep z n := by
  refine ext_tl ?_
  rw [tl_rep]
  unfold Txt.mul
  by_cases h1 : ((n : Nat) : Int) < 1
  · have e : n = 0 := by omega
    subst e
    rw [if_pos h1]
    rfl
  · rw [if_neg h1]
    split
    · rename_i h2
      rw [Bool.or_eq_true, beq_iff_eq, beq_iff_eq] at h2
      rcases h2 with h2 | h2
      · have e : n = 1 := by omega
        subst e
        simp
      · have e : tl z = [] := (len0_tl z).mp h2
        rw [e]
        simp
    · show (List.foldl (· ++ ·) #[] (List.replicate ((n : Int)).toNat z.cps)).toList = _
      rw [foldl_app, Int.toNat_natCast, List.map_replicate]
      rfl
def rRepS : R2 := fun x y H Q => ∃ (z : Str) (n : Nat), x = .str z ∧ y = .int (n : Int) ∧ z.length ≤ 1000 ∧ n ≤ 1000 ∧ Q (.str (rep z n)) H
theorem op_repS {X : Cx} : OpR X (binaryOp .Mult) rRepS := by
  intro pins s σ H x y v u Q I rx ry h
  obtain ⟨z, n, rfl, rfl, hz, hn, q⟩ := h
  obtain ⟨t, rfl⟩ := rx
  obtain ⟨t', rfl⟩ := ry
  refine SB.mul (n := (n : Int)) ⟨?_, fun h1 _ => ?_, fun h1 _ => ?_⟩ fun t1 k => ⟨.str (rep z n), H, I.tok k, ⟨t1, by rw [mul_rep]⟩, q⟩
  · rw [Bool.or_eq_false_iff]
    constructor <;> rw [decide_eq_false_iff_not] <;> omega
  · have hn1 : 1 ≤ (n : Int) := by omega
    have h2 : (1000 : Int) ≤ (2 ^ 63 - 1) / (n : Int) := by
      rw [Int.le_ediv_iff_mul_le (by omega)]
      omega
    omega
  · show decide (z.length * ((n : Int)).toNat > sizeLine) = false
    have hm : z.length * n ≤ 1000 * 1000 := Nat.mul_le_mul hz hn
    rw [Int.toNat_natCast]
    exact decide_eq_false (by have : (1000 * 1000 : Nat) < sizeLine := by decide
                              omega)
theorem len_app (x y : Str) : (x ++ y).length = x.length + y.length := Str.length_append x y
/-- the texts of a list, one behind the other -/
def flat (ps : List Str) : Str := Str.join Str.empty ps
theorem tl_flat (ps : List Str) : tl (flat ps) = (ps.map tl).flatten := by
  unfold flat
  rw [tl_join]
  show joinL [] (ps.map tl) = _
  generalize ps.map tl = l
  induction l with
  | nil => rfl
  | cons x r ih =>
    cases r with
    | nil => simp [joinL]
    | cons y r => rw [joinL, ih]; simp
theorem flat_snoc (ps : List Str) (x : Str) : flat (ps ++ [x]) = flat ps ++ x := by
  refine ext_tl ?_
  rw [tl_append, tl_flat, tl_flat]
  simp
theorem flat_len (ps : List Str) : (ps.map (·.length)).sum = (flat ps).length := by
  rw [len_tl, tl_flat, List.length_flatten, List.map_map]
  congr 1
theorem join_flat (e : Str) (h : tl e = []) (ps : List Str) : Txt.join e ps = flat ps := by
  rw [join_eq]
  refine ext_tl ?_
  rw [tl_join, tl_flat, h]
  generalize ps.map tl = l
  induction l with
  | nil => rfl
  | cons x r ih =>
    cases r with
    | nil => simp [joinL]
    | cons y r => rw [joinL, ih]; simp

theorem cut_take (z : Str) (n : Nat) : tl (cutS z none (some (n : Int))) = (tl z).take n := by
  show ((tl z).drop (HT.sIx z.length 0 none)).take (HT.sIx z.length z.length (some (n : Int)) - HT.sIx z.length 0 none) = _
  rw [HT.sIx_none, HT.sIx_nat, List.drop_zero, Nat.sub_zero, len_tl]
  by_cases h : n ≤ (tl z).length
  · rw [Nat.min_eq_left h]
  · rw [Nat.min_eq_right (by omega), List.take_of_length_le (Nat.le_refl _), List.take_of_length_le (by omega)]
theorem cut_drop (z : Str) (n : Nat) : tl (cutS z (some (n : Int)) none) = (tl z).drop n := by
  show ((tl z).drop (HT.sIx z.length 0 (some (n : Int)))).take (HT.sIx z.length z.length none - HT.sIx z.length 0 (some (n : Int))) = _
  rw [HT.sIx_none, HT.sIx_nat, len_tl]
  by_cases h : n ≤ (tl z).length
  · rw [Nat.min_eq_left h, List.take_of_length_le (by rw [List.length_drop]; omega)]
  · rw [Nat.min_eq_right (by omega), Nat.sub_self, List.take_zero, List.drop_eq_nil_of_le (by omega)]
theorem tl1 (c : Nat) : tl ⟨#[c]⟩ = [c] := rfl
theorem sum_ones {α : Type} : ∀ l : List α, (l.map fun _ => 1).sum = l.length
  | [] => rfl
  | x :: l => by
    rw [List.map_cons, List.sum_cons, sum_ones l, List.length_cons]
    omega
theorem sgn_inj {a b : Nat} (h : (⟨#[a]⟩ : Str) = ⟨#[b]⟩) : a = b := by
  have e := congrArg tl h
  rw [tl1, tl1] at e
  exact List.head_eq_of_cons_eq e
theorem sgn_eq (a b : Nat) : ((⟨#[a]⟩ : Str) = ⟨#[b]⟩) = (a = b) := propext ⟨sgn_inj, fun h => by rw [h]⟩
/-! ### a list's item at an open place -/
theorem atI_in {α : Type} {xs : List α} {i : Int} (h0 : 0 ≤ i) (h1 : i < xs.length) : ∃ x, atI xs i = some x ∧ x ∈ xs := by
  obtain ⟨n, rfl⟩ : ∃ n : Nat, i = (n : Int) := ⟨i.toNat, by omega⟩
  have hn : n < xs.length := by omega
  exact ⟨xs[n], atI_nat (List.getElem?_eq_getElem hn), List.getElem_mem hn⟩

/-! ### v in a list of texts -/
theorem inV_str (v : Str) : ∀ l : List Str, inV (.str v) (l.map V.str) = decide (v ∈ l)
  | [] => rfl
  | x :: l => by
    show (eqV (.str x) (.str v) || inV (.str v) (l.map V.str)) = _
    rw [inV_str v l]
    show (decide (x = v) || _) = _
    rw [← Bool.decide_or]
    refine decide_eq_decide.mpr ?_
    rw [List.mem_cons]
    constructor
    · rintro (h | h)
      · exact .inl h.symm
      · exact .inr h
    · rintro (h | h)
      · exact .inl h.symm
      · exact .inr h
theorem flat_strs : ∀ zs : List Str, (zs.map V.str).all flatV = true
  | [] => rfl
  | _ :: zs => flat_strs zs
theorem rin {K : PySem.W.Frag} {H : Hp} {p : Addr} (zs : List Str) {v : Str} {Q : VK} (h : SqL K H p (zs.map V.str) ∨ SqT K H p (zs.map V.str)) (q : Q (.bl (decide (v ∈ zs))) H) : rIn K false (.str v) (.ref p) H Q :=
  ⟨p, zs.map V.str, rfl, h, rfl, flat_strs zs, by rw [inV_str]; exact q⟩
theorem rnin {K : PySem.W.Frag} {H : Hp} {p : Addr} (zs : List Str) {v : Str} {Q : VK} (h : SqL K H p (zs.map V.str) ∨ SqT K H p (zs.map V.str)) (q : Q (.bl (!decide (v ∈ zs))) H) : rIn K true (.str v) (.ref p) H Q :=
  ⟨p, zs.map V.str, rfl, h, rfl, flat_strs zs, by rw [inV_str]; exact q⟩
/-! ### the law's stream of numbers: a list of two lists -/
structure Stm (H : Hp) (st d p : Addr) : Prop where
  at_ : H st = some (.lst [.ref d, .ref p])
  dg : ∃ ds : List Int, H d = some (.lst (ds.map V.int)) ∧ ds ≠ []
  pl : ∃ i : Int, H p = some (.lst [.int i])
  n1 : st ≠ p
  n2 : d ≠ p
/-- all but what stands at p is as it was -/
structure Stp (p : Addr) (H H' : Hp) : Prop where
  keep : ∀ b o, b ≠ p → H b = some o → H' b = some o
  pl : ∃ i : Int, H' p = some (.lst [.int i])
theorem Stp.trans {p : Addr} {H H1 H2 : Hp} (a : Stp p H H1) (b : Stp p H1 H2) : Stp p H H2 := ⟨fun c o n e => b.keep c o n (a.keep c o n e), b.pl⟩
theorem Stm.step {H H' : Hp} {st d p : Addr} (x : Stm H st d p) (e : Stp p H H') : Stm H' st d p :=
  ⟨e.keep _ _ x.n1 x.at_, let ⟨ds, h, n⟩ := x.dg; ⟨ds, e.keep _ _ x.n2 h, n⟩, e.pl, x.n1, x.n2⟩
theorem Stm.refl {H : Hp} {st d p : Addr} (x : Stm H st d p) : Stp p H H := ⟨fun _ _ _ e => e, x.pl⟩
theorem Stm.same {H H' : Hp} {st d p : Addr} (x : Stm H st d p) (e : Same H H') : Stp p H H' := ⟨fun b o _ h => e b o h, let ⟨i, h⟩ := x.pl; ⟨i, e _ _ h⟩⟩
theorem Stp.same {p : Addr} {H H1 H2 : Hp} (a : Stp p H H1) (e : Same H1 H2) : Stp p H H2 := ⟨fun b o n h => e _ _ (a.keep b o n h), let ⟨i, h⟩ := a.pl; ⟨i, e _ _ h⟩⟩
theorem Stp.tup {p : Addr} {H H' : Hp} {b : Addr} {xs : List V} (a : Stp p H H') {i : Int} (hp : H p = some (.lst [.int i])) (h : H b = some (.tup xs)) : H' b = some (.tup xs) :=
  a.keep b _ (ne_of h hp (by intro z; cases z)) h
theorem Stp.sqT {K : PySem.W.Frag} {p : Addr} {H H' : Hp} {b : Addr} {xs : List V} (a : Stp p H H') {i : Int} (hp : H p = some (.lst [.int i])) (h : SqT K H b xs) : SqT K H' b xs := by
  rcases h with (h | ⟨o, h⟩) | h
  · exact .inl (.inl (a.tup hp h))
  · exact .inl (.inr ⟨o, a.keep _ _ (ne_of h hp (by intro z; cases z)) h⟩)
  · exact .inr h
theorem Stp.free {p : Addr} {H H' : Hp} (a : Stp p H H') {b : Addr} (h : H' b = none) (n : b ≠ p) : H b = none := by
  cases e : H b with
  | none => rfl
  | some o =>
    have h2 := a.keep _ _ n e
    rw [h] at h2
    cases h2
theorem Stp.ne {p : Addr} {H H' : Hp} (a : Stp p H H') {b : Addr} (h : H' b = none) : b ≠ p := by
  obtain ⟨i, e⟩ := a.pl
  exact (ne_of_none e h).symm
/-- what is put at a new place behind a step -/
theorem Stp.upd {p : Addr} {H H' : Hp} (a : Stp p H H') {b : Addr} {o : HO} (h : H b = none) (n : b ≠ p) : Stp p H (upd H' b o) :=
  ⟨fun c u nc e => by rw [upd_ne (ne_of_none e h)]; exact a.keep _ _ nc e, let ⟨i, e⟩ := a.pl; ⟨i, by rw [upd_ne n.symm]; exact e⟩⟩
/-- p was free before: then nothing that stood is changed -/
theorem Stp.fresh {p : Addr} {H0 H H' : Hp} (a : Stp p H H') (s : Same H0 H) (h : H0 p = none) : Same H0 H' := fun b o e => a.keep b o (ne_of_none e h) (s b o e)
end Bs
namespace K2
open PySem L2 TL Bs
local macro_rules | `(tactic| walk_at "wp") => `(tactic| simp only [tSeq, tAsg, gName, gTup, gCons, gNil, tVar, tC, tOp, tUn, rI, rI0, rU, tCB, tCons, tNil, tIfS, tRet, tRetN, tNext, test_eq, tB, tTup, tLst, tCall, tIf, tAndV, tOrV, tNotV, tNot, tAnd, tOr, rEq, rNe, scal_ii, scal_ss, scal_bb, dec_ii, dec_ss, dec_bb, for_eq, lc_eq, while_eq, tDrop, tYes, iList, iTup, iRng1, iRng2, RZ.iZipA, L2.start, rIxL, rIxT, rIxS, rSlS, cxK, tSl, tPart, tNoPart, tBM, tBM0, rAppend, rExtend, rRepS, gSub, rSetL, tAug, ipI, rAdd, rSub, tM1, tM0,
  List.map_cons, List.map_nil, List.length_cons, List.length_nil, List.cons_append, List.nil_append, List.append_nil, List.getElem?_cons_succ, List.getElem?_cons_zero, List.set_cons_succ, List.set_cons_zero, Nat.reduceAdd, Nat.reduceSub, List.replicate_succ, List.replicate_zero, wipe,
  Option.some.injEq, V.int.injEq, V.str.injEq, V.ref.injEq, V.bl.injEq, exists_eq_left, exists_eq_left', exists_and_left, exists_eq_right, List.cons.injEq, and_true, true_and, ex_bl, ex_int, exists_const, Nat.zero_add, Int.toNat_natCast, Int.zero_add, and_assoc, reduceCtorEq, false_and, and_false, exists_false, or_false, false_or, eq_self, decide_true, decide_false, ite_true, ite_false, if_true, if_false, Bool.false_eq_true, Bool.not_true, Bool.not_false, ↓reduceIte])
def top (i : Nat) : Stmt := PySem.Challenge.pw_loopworks_k02_signs_written.main.body.getD i (.Pass ⟨0, 0, 0, 0⟩)
abbrev s_write_signs : Stmt := top 4
theorem sc_write_signs : FnScope ["signs", "pieces", "depth", "last", "sign", "value"] ["signs"] (defScope s_write_signs) := ⟨rfl, rfl, rfl, by decide +kernel, rfl, by decide +kernel, by decide +kernel⟩
abbrev s_law_cell : Stmt := top 6
theorem sc_law_cell : FnScope ["script", "k"] ["script", "k"] (defScope s_law_cell) := ⟨rfl, rfl, rfl, by decide +kernel, rfl, by decide +kernel, by decide +kernel⟩
abbrev s_law_draws : Stmt := top 7
theorem sc_law_draws : FnScope ["cell", "count", "number", "great", "found", "k", "mixed"] ["cell", "count"] (defScope s_law_draws) := ⟨rfl, rfl, rfl, by decide +kernel, rfl, by decide +kernel, by decide +kernel⟩
abbrev s_law_stream : Stmt := top 8
theorem sc_law_stream : FnScope ["script", "first", "count", "found", "k"] ["script", "first", "count"] (defScope s_law_stream) := ⟨rfl, rfl, rfl, by decide +kernel, rfl, by decide +kernel, by decide +kernel⟩
abbrev s_law_next : Stmt := top 9
theorem sc_law_next : FnScope ["stream", "many", "digits", "place", "value"] ["stream", "many"] (defScope s_law_next) := ⟨rfl, rfl, rfl, by decide +kernel, rfl, by decide +kernel, by decide +kernel⟩
abbrev s_law_word : Stmt := top 10
theorem sc_law_word : FnScope ["stream", "index", "letters", "size", "text", "k", "place", "word"] ["stream", "index"] (defScope s_law_word) := ⟨rfl, rfl, rfl, by decide +kernel, rfl, by decide +kernel, by decide +kernel⟩
abbrev s_law_line : Stmt := top 11
theorem sc_law_line : FnScope ["row", "depth", "text", "k"] ["row", "depth"] (defScope s_law_line) := ⟨rfl, rfl, rfl, by decide +kernel, rfl, by decide +kernel, by decide +kernel⟩
abbrev s_law_normal : Stmt := top 12
theorem sc_law_normal : FnScope ["tokens", "text", "row", "depth", "begin", "token"] ["tokens"] (defScope s_law_normal) := ⟨rfl, rfl, rfl, by decide +kernel, rfl, by decide +kernel, by decide +kernel⟩
abbrev s_law_is_integer : Stmt := top 13
theorem sc_law_is_integer : FnScope ["actual"] ["actual"] (defScope s_law_is_integer) := ⟨rfl, rfl, rfl, by decide +kernel, rfl, by decide +kernel, by decide +kernel⟩
abbrev s_law_same : Stmt := top 14
theorem sc_law_same : FnScope ["actual", "expected", "k"] ["actual", "expected"] (defScope s_law_same) := ⟨rfl, rfl, rfl, by decide +kernel, rfl, by decide +kernel, by decide +kernel⟩
abbrev s_law_pair : Stmt := top 15
theorem sc_law_pair : FnScope ["stream", "kind", "symbols"] ["stream"] (defScope s_law_pair) := ⟨rfl, rfl, rfl, by decide +kernel, rfl, by decide +kernel, by decide +kernel⟩
abbrev s_law : Stmt := top 16
theorem sc_law : FnScope ["script", "stream", "pairs", "k", "expected", "pair", "passed", "actual"] ["script"] (defScope s_law) := ⟨rfl, rfl, rfl, by decide +kernel, rfl, by decide +kernel, by decide +kernel⟩
structure Ad where
  f_write_signs : Addr
  f_law_cell : Addr
  f_law_draws : Addr
  f_law_stream : Addr
  f_law_next : Addr
  f_law_word : Addr
  f_law_line : Addr
  f_law_normal : Addr
  f_law_is_integer : Addr
  f_law_same : Addr
  f_law_pair : Addr
  f_law : Addr
  d_write_signs : FuncData
  d_law_cell : FuncData
  d_law_draws : FuncData
  d_law_stream : FuncData
  d_law_next : FuncData
  d_law_word : FuncData
  d_law_line : FuncData
  d_law_normal : FuncData
  d_law_is_integer : FuncData
  d_law_same : FuncData
  d_law_pair : FuncData
  d_law : FuncData
  t_LINE_ENDS : Addr
  t_NO_SPACE_AHEAD : Addr
  t_NO_SPACE_BEHIND : Addr
structure Txt (K : PySem.W.Frag) (mg : Str → Option Value) (A : Ad) : Prop where
  b_max : mg "max" = none
  b_str : mg "str" = none
  b_len : mg "len" = none
  b_int : mg "int" = none
  b_range : mg "range" = none
  b_abs : mg "abs" = none
  b_isinstance : mg "isinstance" = none
  b_bool : mg "bool" = none
  b_list : mg "list" = none
  g_write_signs : mg "write_signs" = some (.ref A.f_write_signs)
  F_write_signs : Fun K "write_signs" "write_signs" s_write_signs A.f_write_signs A.d_write_signs
  B_write_signs : Binds K A.d_write_signs ["signs"] []
  g_law_cell : mg "_law_cell" = some (.ref A.f_law_cell)
  F_law_cell : Fun K "_law_cell" "_law_cell" s_law_cell A.f_law_cell A.d_law_cell
  B_law_cell : Binds K A.d_law_cell ["script", "k"] []
  g_law_draws : mg "_law_draws" = some (.ref A.f_law_draws)
  F_law_draws : Fun K "_law_draws" "_law_draws" s_law_draws A.f_law_draws A.d_law_draws
  B_law_draws : Binds K A.d_law_draws ["cell", "count"] []
  g_law_stream : mg "_law_stream" = some (.ref A.f_law_stream)
  F_law_stream : Fun K "_law_stream" "_law_stream" s_law_stream A.f_law_stream A.d_law_stream
  B_law_stream : Binds K A.d_law_stream ["script", "first", "count"] []
  g_law_next : mg "_law_next" = some (.ref A.f_law_next)
  F_law_next : Fun K "_law_next" "_law_next" s_law_next A.f_law_next A.d_law_next
  B_law_next : Binds K A.d_law_next ["stream", "many"] []
  g_law_word : mg "_law_word" = some (.ref A.f_law_word)
  F_law_word : Fun K "_law_word" "_law_word" s_law_word A.f_law_word A.d_law_word
  B_law_word : Binds K A.d_law_word ["stream", "index"] []
  g_law_line : mg "_law_line" = some (.ref A.f_law_line)
  F_law_line : Fun K "_law_line" "_law_line" s_law_line A.f_law_line A.d_law_line
  B_law_line : Binds K A.d_law_line ["row", "depth"] []
  g_law_normal : mg "_law_normal" = some (.ref A.f_law_normal)
  F_law_normal : Fun K "_law_normal" "_law_normal" s_law_normal A.f_law_normal A.d_law_normal
  B_law_normal : Binds K A.d_law_normal ["tokens"] []
  g_law_is_integer : mg "_law_is_integer" = some (.ref A.f_law_is_integer)
  F_law_is_integer : Fun K "_law_is_integer" "_law_is_integer" s_law_is_integer A.f_law_is_integer A.d_law_is_integer
  B_law_is_integer : Binds K A.d_law_is_integer ["actual"] []
  g_law_same : mg "_law_same" = some (.ref A.f_law_same)
  F_law_same : Fun K "_law_same" "_law_same" s_law_same A.f_law_same A.d_law_same
  B_law_same : Binds K A.d_law_same ["actual", "expected"] []
  g_law_pair : mg "_law_pair" = some (.ref A.f_law_pair)
  F_law_pair : Fun K "_law_pair" "_law_pair" s_law_pair A.f_law_pair A.d_law_pair
  B_law_pair : Binds K A.d_law_pair ["stream"] []
  g_law : mg "law" = some (.ref A.f_law)
  F_law : Fun K "law" "law" s_law A.f_law A.d_law
  B_law : Binds K A.d_law ["script"] []
  g_LINE_ENDS : mg "LINE_ENDS" = some (.ref A.t_LINE_ENDS)
  q_LINE_ENDS : ∀ H : Hp, SqT K H A.t_LINE_ENDS [.str ";", .str "{", .str "}", .str "||"]
  g_NO_SPACE_AHEAD : mg "NO_SPACE_AHEAD" = some (.ref A.t_NO_SPACE_AHEAD)
  q_NO_SPACE_AHEAD : ∀ H : Hp, SqT K H A.t_NO_SPACE_AHEAD [.str ",", .str ";", .str ":", .str "[", .str "]", .str "(", .str ")"]
  g_NO_SPACE_BEHIND : mg "NO_SPACE_BEHIND" = some (.ref A.t_NO_SPACE_BEHIND)
  q_NO_SPACE_BEHIND : ∀ H : Hp, SqT K H A.t_NO_SPACE_BEHIND [.str "[", .str "("]
section
variable {P : Program} {w : World} {K : PySem.W.Frag} {mg : Str → Option Value} {base : Heap} {A : Ad}
def sp_law_cell (K : PySem.W.Frag) : Sp := fun vs H Q _ => ∃ (l : Addr) (ns : List Int) (j : Nat), vs = [V.ref l, V.int (j : Nat)] ∧ SqL K H l (ns.map V.int) ∧ Q (.int (L2.cellOf ns j)) H
def sp_law_draws (K : PySem.W.Frag) : Sp := fun vs H Q _ => ∃ c : Int, vs = [.int c, .int 12] ∧ ∀ H' t (ds : List Int), Same H H' → H' t = some (.lst (ds.map V.int)) → H t = none → ds.length = 12 → Q (.ref t) H'
def sp_law_stream (K : PySem.W.Frag) : Sp := fun vs H Q _ => ∃ (l : Addr) (ns : List Int) (first count : Nat), vs = [.ref l, .int (first : Int), .int (count : Int)] ∧ SqL K H l (ns.map V.int) ∧ 1 ≤ count ∧ count ≤ 100 ∧
  ∀ H' st d p, Same H H' → Stm H' st d p → H p = none → Q (.ref st) H'
def sp_law_next (K : PySem.W.Frag) : Sp := fun vs H Q _ => ∃ (st d p : Addr) (m : Int), vs = [.ref st, .int m] ∧ Stm H st d p ∧ 0 < m ∧ ∀ H' (v : Int), Stp p H H' → 0 ≤ v → v < m → Q (.int v) H'
theorem ok_law_cell (T : Txt K mg A) : FnOk P w K mg base CX0 1 A.f_law_cell A.d_law_cell ["script", "k"] (sp_law_cell K) := by
  refine T.F_law_cell.ok sc_law_cell (fun vs H Q E h => ?_) (fun cdv A' outer s H vs Q E hr h => ?_)
  · obtain ⟨a, ns, j, rfl, _⟩ := h
    rfl
  · obtain ⟨a, ns, j, rfl, hS, q⟩ := h
    refine ⟨_, (pss_cons (ps_if (pt_cmpR op_lt (pv 1) (pe_callB call_len_seq (by rfl) T.b_len (by decide +kernel) (pa_cons (pv 0) pa_nil)) (nomark _)) 
      (pss_one (ps_ret (pe_callTy call_intI (by rfl) T.b_int (by decide +kernel) (pa_cons (pe_ix ix_list (pv 0) (pv 1) (fun _ _ => rfl)) pa_nil)))) pss_nil) 
    (pss_one (ps_ret pe_int))), ?_⟩
    walk_at "wp"
    refine ⟨_, .inl hS, ?_⟩
    by_cases hj : j < ns.length
    · rw [if_pos (by rw [List.length_map]; exact decide_eq_true (by omega))]
      refine ⟨_, hS, _, atI_cell hj, _, rfl, q⟩
    · rw [if_neg (by rw [List.length_map, decide_eq_true_eq]; omega)]
      rw [cell_out hj] at q
      exact q
theorem ok_law_draws (T : Txt K mg A) : FnOk P w K mg base CX0 1 A.f_law_draws A.d_law_draws ["cell", "count"] (sp_law_draws K) := by
  refine T.F_law_draws.ok sc_law_draws (fun vs H Q E h => ?_) (fun cdv A' outer s H vs Q E hr h => ?_)
  · obtain ⟨c, rfl, _⟩ := h
    rfl
  · obtain ⟨c, rfl, q⟩ := h
    refine ⟨_, (pss_cons (ps_set (i := 2) sc_law_draws.nd rfl (Or.inl rfl) (pe_callB call_abs (by rfl) T.b_abs (by decide +kernel) (pa_cons (pe_callTy call_intI (by rfl) T.b_int (by decide +kernel) (pa_cons (pv 0) pa_nil)) pa_nil))) 
    (pss_cons (ps_set (i := 3) sc_law_draws.nd rfl (Or.inl rfl) (pe_cmpR op_ge (pv 2) (pe_op op_pow pe_int pe_int) (nomark _))) 
    (pss_cons (ps_set (i := 4) sc_law_draws.nd rfl (Or.inl rfl) (pe_lst pa_nil)) 
    (pss_cons (ps_for PassesOwn.never rfl (pi_range1 (by rfl) T.b_range (pa_cons pe_int pa_nil)) (pg_name (i := 5) sc_law_draws.nd rfl (Or.inl rfl)) 
      (pss_one (ps_if (PW.pt (pw_and (pt_cmpR op_lt (pv 5) (pv 1) (nomark _)) (pw_and1 (pt_val (pv 3))))) 
        (pss_cons (ps_expr (pe_bm PySem.F.plainAttrs_list PySem.F.slot_list_append PySem.F.type_list_append mt_append (pv 4) (pa_cons (pe_op op_mod (pv 2) pe_int) pa_nil))) 
        (pss_one (ps_set (i := 2) sc_law_draws.nd rfl (Or.inl rfl) (pe_op op_fdiv (pv 2) pe_int)))) 
        (pss_one (ps_if (pt_cmpR op_lt (pv 5) (pv 1) (nomark _)) 
          (pss_cons (ps_set (i := 6) sc_law_draws.nd rfl (Or.inl rfl) (pe_op op_mod (pe_op op_add (pe_op op_add (pe_op op_mul (pe_callTy call_intI (by rfl) T.b_int (by decide +kernel) (pa_cons (pv 2) pa_nil)) pe_int) (pe_op op_mul (pv 5) pe_int)) pe_int) pe_int)) 
          (pss_cons (ps_set (i := 6) sc_law_draws.nd rfl (Or.inl rfl) (pe_op op_mod (pe_op op_add (pe_op op_add (pe_op op_mul (pe_callTy call_intI (by rfl) T.b_int (by decide +kernel) (pa_cons (pv 6) pa_nil)) (pe_callTy call_intI (by rfl) T.b_int (by decide +kernel) (pa_cons (pv 6) pa_nil))) (pe_op op_mul (pv 5) pe_int)) pe_int) pe_int)) 
          (pss_one (ps_expr (pe_bm PySem.F.plainAttrs_list PySem.F.slot_list_append PySem.F.type_list_append mt_append (pv 4) (pa_cons (pe_op op_mod (pe_callTy call_intI (by rfl) T.b_int (by decide +kernel) (pa_cons (pv 6) pa_nil)) pe_int) pa_nil)))))) pss_nil))))) 
    (pss_one (ps_ret (pv 4))))))), ?_⟩
    walk_at "wp"
    refine ⟨⟨by decide, by decide, by decide⟩, Nat.zero_le _, fun p np => ⟨by decide, by decide, ?_⟩⟩
    obtain ⟨Pv, hPv⟩ : ∃ Pv : Nat → St → Hp → Prop, ∀ i σ H', Pv i σ H' ↔ ∃ (num : Int) (g : Bool) (ds : List Int) (v5 v6 : Option V), σ = [some (V.int c), some (V.int 12), some (V.int num), some (V.bl g), some (V.ref p), v5, v6] ∧ (g = false → 0 ≤ num ∧ num < 1000000000000000000) ∧
      Same H H' ∧ H' p = some (.lst (ds.map V.int)) ∧ ds.length = min i 12 := ⟨_, fun _ _ _ => Iff.rfl⟩
    have e18 : (10 : Int) ^ Int.toNat 18 = 1000000000000000000 := by decide
    refine loop_it (walk_range0 (n := 60)) Pv ((hPv _ _ _).mpr ⟨_, _, [], none, none, rfl, fun hg => ?_, same_upd np, upd_same, rfl⟩) (fun _ _ _ _ _ => trivial) ?_ ?_
    · rw [e18, decide_eq_false_iff_not] at hg
      constructor
      · split <;> omega
      · omega
    · intro i x σ H1 H2 hi pw y
      obtain ⟨num, g, ds, v5, v6, rfl, hg, s1, e1, hl⟩ := (hPv _ _ _).mp pw
      obtain ⟨rfl, rfl⟩ := y
      walk_at "wp"
      have sz : ∀ z : V, (ds.map V.int).length < sizeLine := fun _ => small1000 (by rw [List.length_map]; omega)
      have ty : tyV K "list" (V.ref p) H2 := .inl ⟨rfl, _, SqL.of e1⟩
      have fin : ∀ (num' : Int) (v v5' v6' : Option V) (z : Int), i < 12 → (g = false → 0 ≤ num' ∧ num' < 1000000000000000000) → Pv (i + 1) [some (V.int c), some (V.int 12), some (V.int num'), some (V.bl g), some (V.ref p), v5', v6'] (upd H2 p (.lst (ds.map V.int ++ [V.int z]))) := fun num' v v5' v6' z h12 hg' =>
        (hPv _ _ _).mpr ⟨num', g, ds ++ [z], v5', v6', rfl, hg', fun b o e => by rw [upd_ne (ne_of_none e np)]; exact s1 _ _ e, by rw [upd_same, List.map_append]; rfl, by rw [List.length_append, List.length_singleton]; omega⟩
      by_cases h12 : i < 12
      · rw [show decide (((i : Nat) : Int) < 12) = true from decide_eq_true (by omega)]
        cases g with
        | true =>
          walk_at "wp"
          exact ⟨ty, by decide, _, e1, sz .non, ⟨by decide, by decide⟩, fin _ none _ _ _ h12 (fun z => by cases z)⟩
        | false =>
          walk_at "wp"
          have hn := hg rfl
          refine ⟨.inr ⟨by decide, by decide⟩, .inr ⟨by decide, by decide⟩, by decide, ?_⟩
          have m0 := Int.emod_nonneg (num * 48271 + (i : Int) * 69621 + 11) (show (2147483647 : Int) ≠ 0 by decide)
          have m1 := Int.emod_lt_of_pos (num * 48271 + (i : Int) * 69621 + 11) (show (0 : Int) < 2147483647 by decide)
          refine ⟨.inl ⟨by omega, by omega⟩, .inr ⟨by decide, by decide⟩, by decide, ty, by decide, _, e1, sz .non, ?_⟩
          exact fin _ none _ _ _ h12 (fun _ => hn)
      · rw [show decide (((i : Nat) : Int) < 12) = false from decide_eq_false (by omega)]
        walk_at "wp"
        exact (hPv _ _ _).mpr ⟨num, g, ds, _, v6, rfl, hg, s1, e1, by omega⟩
    · intro σ H1 pw
      obtain ⟨num, g, ds, v5, v6, rfl, hg, s1, e1, hl⟩ := (hPv _ _ _).mp pw
      walk_at "wp"
      exact q _ _ ds s1 e1 np (by omega)
theorem ok_law_stream (T : Txt K mg A) : FnOk P w K mg base CX0 2 A.f_law_stream A.d_law_stream ["script", "first", "count"] (sp_law_stream K) := by
  have G_law_draws := ok_law_draws (P := P) (w := w) (base := base) T
  have G_law_cell := ok_law_cell (P := P) (w := w) (base := base) T
  refine T.F_law_stream.ok sc_law_stream (fun vs H Q E h => ?_) (fun cdv A' outer s H vs Q E hr h => ?_)
  · obtain ⟨l, ns, first, count, rfl, _⟩ := h
    rfl
  · obtain ⟨l, ns, first, count, rfl, hL, h1, h2, q⟩ := h
    refine ⟨_, (pss_cons (ps_set (i := 3) sc_law_stream.nd rfl (Or.inl rfl) (pe_lst pa_nil)) 
    (pss_cons (ps_for PassesOwn.never rfl (pi_range1 (by rfl) T.b_range (pa_cons (pv 2) pa_nil)) (pg_name (i := 4) sc_law_stream.nd rfl (Or.inl rfl)) 
      (pss_one (ps_expr (pe_bm PySem.F.plainAttrs_list PySem.F.slot_list_extend PySem.F.type_list_extend mt_extend (pv 3) (pa_cons (pe_call G_law_draws hr (by rfl) T.g_law_draws T.F_law_draws.kp T.B_law_draws .nil pass0 (pa_cons (pe_call G_law_cell hr (by rfl) T.g_law_cell T.F_law_cell.kp T.B_law_cell .nil pass0 (pa_cons (pv 0) (pa_cons (pe_op op_add (pv 1) (pv 4)) pa_nil))) (pa_cons pe_int pa_nil))) pa_nil))))) 
    (pss_one (ps_ret (pe_lst (pa_cons (pv 3) (pa_cons (pe_lst (pa_cons pe_int pa_nil)) pa_nil))))))), ?_⟩
    walk_at "wp"
    refine ⟨Nat.zero_le _, fun p np => ⟨by omega, by omega, ?_⟩⟩
    obtain ⟨Pv, hPv⟩ : ∃ Pv : Nat → St → Hp → Prop, ∀ i σ H', Pv i σ H' ↔ ∃ (ds : List Int) (v4 : Option V), σ = [some (V.ref l), some (V.int (first : Int)), some (V.int (count : Int)), some (V.ref p), v4] ∧
      Same H H' ∧ H' p = some (.lst (ds.map V.int)) ∧ ds.length = 12 * i := ⟨_, fun _ _ _ => Iff.rfl⟩
    refine loop_it (walk_range0 (n := count)) Pv ((hPv _ _ _).mpr ⟨[], none, rfl, same_upd np, upd_same, rfl⟩) (fun _ _ _ _ _ => trivial) ?_ ?_
    · intro i x σ H1 H2 hi pw y
      obtain ⟨ds, v4, rfl, s1, e1, hl⟩ := (hPv _ _ _).mp pw
      obtain ⟨rfl, rfl⟩ := y
      walk_at "wp"
      refine ⟨.inl ⟨rfl, _, SqL.of e1⟩, l, ns, first + i, by rw [Int.natCast_add], s1.seq hL, ?_⟩
      refine ⟨_, rfl, fun H3 t ds2 s3 e3 nt h12 => ?_⟩
      have npt : t ≠ p := fun z => by
        rw [z, e1] at nt
        cases nt
      refine ⟨_, rfl, _, s3 _ _ e1, _, e3, ?_, (hPv _ _ _).mpr ⟨ds ++ ds2, _, rfl, fun b o e => ?_, ?_, ?_⟩⟩
      · rw [List.length_map, List.length_map]
        exact Nat.le_of_lt (Nat.lt_of_le_of_lt (show ds.length + ds2.length ≤ 2000 by omega) (by decide))
      · rw [upd_ne (ne_of_none e np)]
        exact s3 _ _ (s1 _ _ e)
      · rw [upd_same, List.map_append]
      · rw [List.length_append]
        omega
    · intro σ H1 pw
      obtain ⟨ds, v4, rfl, s1, e1, hl⟩ := (hPv _ _ _).mp pw
      walk_at "wp"
      refine ⟨by decide, fun p2 n2 => ⟨by decide, fun st n3 => ?_⟩⟩
      have s4 := (same_upd (o := .lst [.int 0]) n2).trans (same_upd (o := .lst [.ref p, .ref p2]) n3)
      have np2 : p ≠ p2 := ne_of_none e1 n2
      have nst : st ≠ p2 := fun z => by
        rw [z, upd_same] at n3
        cases n3
      refine q _ st p p2 (s1.trans s4) ⟨upd_same, ⟨ds, s4 _ _ e1, fun z => ?_⟩, ⟨0, ?_⟩, nst, np2⟩ (s1.free n2)
      · rw [z] at hl
        simp only [List.length_nil] at hl
        omega
      · rw [upd_ne nst.symm, upd_same]
theorem ok_law_next (T : Txt K mg A) : FnOk P w K mg base CX0 1 A.f_law_next A.d_law_next ["stream", "many"] (sp_law_next K) := by
  refine T.F_law_next.ok sc_law_next (fun vs H Q E h => ?_) (fun cdv A' outer s H vs Q E hr h => ?_)
  · obtain ⟨st, d, p, m, rfl, _⟩ := h
    rfl
  · obtain ⟨st, d, p, m, rfl, hM, hm, q⟩ := h
    refine ⟨_, (pss_cons (ps_set (i := 2) sc_law_next.nd rfl (Or.inl rfl) (pe_ix ix_list (pv 0) pe_int (fun _ _ => rfl))) 
    (pss_cons (ps_set (i := 3) sc_law_next.nd rfl (Or.inl rfl) (pe_ix ix_list (pv 0) pe_int (fun _ _ => rfl))) 
    (pss_cons (ps_set (i := 4) sc_law_next.nd rfl (Or.inl rfl) (pe_op op_mod (pe_callTy call_intI (by rfl) T.b_int (by decide +kernel) (pa_cons (pe_ix ix_list (pv 2) (pe_op op_mod (pe_callTy call_intI (by rfl) T.b_int (by decide +kernel) (pa_cons (pe_ix ix_list (pv 3) pe_int (fun _ _ => rfl)) pa_nil)) (pe_callB call_len_seq (by rfl) T.b_len (by decide +kernel) (pa_cons (pv 2) pa_nil))) (fun _ _ => rfl)) pa_nil)) (pv 1))) 
    (pss_cons (ps_asg (pe_op op_add (pe_ix ix_list (pv 3) pe_int (fun _ _ => rfl)) pe_int) (pg_sub (pv 3) pe_int set_list)) 
    (pss_one (ps_ret (pv 4))))))), ?_⟩
    walk_at "wp"
    obtain ⟨ds, ed, hd⟩ := hM.dg
    obtain ⟨i, ep⟩ := hM.pl
    have sS := SqL.of (K := K) hM.at_
    refine ⟨_, sS, _, rfl, _, sS, _, rfl, ?_⟩
    walk_at "wp"
    have hl : 0 < ds.length := by
      cases ds with
      | nil => exact absurd rfl hd
      | cons x r => exact Nat.succ_pos _
    have hl2 : (0 : Int) < ((ds.map V.int).length : Int) := by rw [List.length_map]; omega
    obtain ⟨x, ex, hx⟩ := atI_in (xs := ds.map V.int) (i := i % ((ds.map V.int).length : Int)) (Int.emod_nonneg _ (by omega)) (Int.emod_lt_of_pos _ hl2)
    obtain ⟨z, _, rfl⟩ := List.mem_map.mp hx
    refine ⟨_, SqL.of ep, _, rfl, _, rfl, _, .inl (SqL.of ed), hl2, _, SqL.of ed, _, ex, _, rfl, hm, _, SqL.of ep, _, rfl, _, rfl, _, ep, _, rfl, ?_⟩
    exact q _ _ ⟨fun b o n e => by rw [upd_ne n]; exact e, _, upd_same⟩ (Int.emod_nonneg _ (by omega)) (Int.emod_lt_of_pos _ hm)
def isLetter (c : Nat) : Bool := (97 ≤ c && c ≤ 122) || (65 ≤ c && c ≤ 90)
def isDigit (c : Nat) : Bool := 48 ≤ c && c ≤ 57
def isWordC (c : Nat) : Bool := isLetter c || isDigit c || c == 95
/-- a word: a letter, then letters, digits, underscores; at most m characters -/
def IsWord (m : Nat) (z : Str) : Prop := ∃ c r, tl z = c :: r ∧ isLetter c = true ∧ (∀ x ∈ r, isWordC x = true) ∧ r.length < m
def sp_law_word (K : PySem.W.Frag) : Sp := fun vs H Q _ => ∃ (st d p : Addr) (j : Int), vs = [.ref st, .int j] ∧ Stm H st d p ∧ 0 ≤ j ∧ j < 10 ∧ ∀ H' z, Stp p H H' → IsWord 6 z → Q (.str z) H'
theorem ok_law_word (T : Txt K mg A) : FnOk P w K mg base CX0 2 A.f_law_word A.d_law_word ["stream", "index"] (sp_law_word K) := by
  have G_law_next := ok_law_next (P := P) (w := w) (base := base) T
  refine T.F_law_word.ok sc_law_word (fun vs H Q E h => ?_) (fun cdv A' outer s H vs Q E hr h => ?_)
  · obtain ⟨st, d, p, j, rfl, _⟩ := h
    rfl
  · obtain ⟨st, d, p, j, rfl, hM, j0, j1, q⟩ := h
    refine ⟨_, (pss_cons (ps_set (i := 2) sc_law_word.nd rfl (Or.inr rfl) pe_str) 
    (pss_cons (ps_set (i := 3) sc_law_word.nd rfl (Or.inl rfl) (pe_call G_law_next hr (by rfl) T.g_law_next T.F_law_next.kp T.B_law_next .nil pass0 (pa_cons (pv 0) (pa_cons pe_int pa_nil)))) 
    (pss_cons (ps_set (i := 4) sc_law_word.nd rfl (Or.inl rfl) (pe_join pe_str (pe_lc (own := [("k", 5)]) (by rfl) sc_law_word.nd (pi_range1 (by rfl) T.b_range (pa_cons (pv 3) pa_nil)) (blkOk_by (own := [("k", 5)]) (N := ["stream", "index", "letters", "size", "text", "k", "place", "word"]) (sc := defScope s_law_word) (by decide +kernel)) (fun _ _ _ _ _ => (pg_name (i := 5) sc_law_word.nd rfl (Or.inl rfl) (Or.inr rfl))) (fun _ _ _ _ _ => pts_nil) (fun _ _ _ _ _ => (pe_ix ix_str (pv 2) (pe_call G_law_next hr (by rfl) T.g_law_next T.F_law_next.kp T.B_law_next .nil pass0 (pa_cons (pv 0) (pa_cons pe_int pa_nil))) (fun _ _ => rfl)))))) 
    (pss_cons (ps_set (i := 6) sc_law_word.nd rfl (Or.inl rfl) (pe_call G_law_next hr (by rfl) T.g_law_next T.F_law_next.kp T.B_law_next .nil pass0 (pa_cons (pv 0) (pa_cons (pe_op op_add (pv 3) pe_int) pa_nil)))) 
    (pss_cons (ps_set (i := 7) sc_law_word.nd rfl (Or.inl rfl) (pe_op op_add_str (pe_op op_add_str (pe_slice sl_str (pv 4) po_none (po_some (pv 6))) (pe_ix ix_str pe_str (pv 1) (fun _ _ => rfl))) (pe_slice sl_str (pv 4) (po_some (pv 6)) po_none))) 
    (pss_cons (ps_if (pt_cmpR op_in_sign (pe_ix ix_str (pv 7) pe_int (fun _ _ => rfl)) (pe_slice sl_str (pv 2) (po_some pe_int) po_none) (by rfl)) 
      (pss_one (ps_set (i := 7) sc_law_word.nd rfl (Or.inl rfl) (pe_op op_add_str pe_str (pv 7)))) pss_nil) 
    (pss_one (ps_ret (pv 7))))))))), ?_⟩
    walk_at "wp"
    have hLet : ∀ c ∈ tl "abcdefghijklmnopqrstuvwxyz_0123456789", isWordC c = true := by decide +kernel
    have hLow : ∀ c ∈ (tl "abcdefghijklmnopqrstuvwxyz_0123456789").take 26, isLetter c = true := by decide +kernel
    have hUp : ∀ c ∈ tl "ABCDEFGHIJ", isLetter c = true := by decide +kernel
    have lLet : (tl "abcdefghijklmnopqrstuvwxyz_0123456789").length = 37 := by decide +kernel
    have lUp : (tl "ABCDEFGHIJ").length = 10 := by decide +kernel
    have isW : ∀ c, isLetter c = true → isWordC c = true := fun c h => by unfold isWordC; rw [h]; rfl
    have big : ∀ n : Nat, n ≤ 1000 → n ≤ sizeLine := fun n h => Nat.le_of_lt (small1000 h)
    refine ⟨st, d, p, 5, rfl, hM, by decide, fun H1 v s1 v0 v1 => ?_⟩
    refine ⟨⟨_, rfl⟩, v, rfl, by omega, by omega, fun D hD => ?_⟩
    obtain ⟨i1, ep1⟩ := s1.pl
    have nDp : D ≠ p := (ne_of_none ep1 hD).symm
    have hD0 : H D = none := s1.free hD nDp
    obtain ⟨n, rfl⟩ : ∃ n : Nat, v = (n : Int) := ⟨v.toNat, by omega⟩
    obtain ⟨Pv, hPv⟩ : ∃ Pv : Nat → Hp → Prop, ∀ i H', Pv i H' ↔ Stp p H H' ∧ ∃ zs : List Str, H' D = some (.lst (zs.map V.str)) ∧ zs.length = i ∧ ∀ z ∈ zs, ∃ c, c ∈ tl "abcdefghijklmnopqrstuvwxyz_0123456789" ∧ z = ⟨#[c]⟩ := ⟨_, fun _ _ => Iff.rfl⟩
    refine loopc_it (walk_range0 (n := n)) Pv ((hPv _ _).mpr ⟨s1.same (same_upd hD), [], upd_same, rfl, fun _ h => by cases h⟩) (fun _ _ _ _ => trivial) ?_ ?_
    · intro i x H2 H3 hi pw y
      obtain ⟨s2, zs, ez, hl, hz⟩ := (hPv _ _).mp pw
      obtain ⟨rfl, rfl⟩ := y
      walk_at "wp"
      refine ⟨st, d, p, 37, rfl, hM.step s2, by decide, fun H4 u s4 u0 u1 => ?_⟩
      obtain ⟨c, ec, hc⟩ := atI_in (xs := tl "abcdefghijklmnopqrstuvwxyz_0123456789") u0 (by rw [lLet]; omega)
      refine ⟨u, rfl, by rw [len_tl, lLet]; decide, c, ec, zs.map V.str, s4.keep _ _ nDp ez, small1000 (by rw [List.length_map]; omega), (hPv _ _).mpr ⟨(s2.trans s4).upd hD0 nDp, zs ++ [⟨#[c]⟩], ?_, ?_, ?_⟩⟩
      · rw [upd_same, List.map_append]
        rfl
      · rw [List.length_append, hl]
        rfl
      · intro z hz2
        rcases List.mem_append.mp hz2 with h | h
        · exact hz _ h
        · exact ⟨c, hc, List.mem_singleton.mp h⟩
    · intro H2 pw
      obtain ⟨s2, zs, ez, hl, hz⟩ := (hPv _ _).mp pw
      have hT : ∀ c ∈ tl (flat zs), c ∈ tl "abcdefghijklmnopqrstuvwxyz_0123456789" := fun c hc => by
        rw [tl_flat] at hc
        obtain ⟨l, hl1, hl2⟩ := List.mem_flatten.mp hc
        obtain ⟨z, hz1, rfl⟩ := List.mem_map.mp hl1
        obtain ⟨c', h1, rfl⟩ := hz z hz1
        rw [tl1, List.mem_singleton] at hl2
        rw [hl2]
        exact h1
      have lT : (tl (flat zs)).length = n := by
        rw [tl_flat, List.length_flatten, List.map_map, ← hl]
        have e : zs.map (List.length ∘ tl) = zs.map fun _ => 1 := List.map_congr_left fun z hz1 => by
          obtain ⟨c', h1, rfl⟩ := hz z hz1
          rfl
        rw [e]
        exact sum_ones zs
      refine ⟨zs, .inl (SqL.of ez), ?_, n, rfl, ?_⟩
      · rw [flat_len, len_tl, lT, show (Str.ofString "").length = 0 by decide +kernel]
        omega
      refine ⟨st, d, p, (n : Int) + 1, rfl, hM.step s2, by omega, fun H3 u s3 u0 u1 => ?_⟩
      obtain ⟨k, rfl⟩ : ∃ k : Nat, u = (k : Int) := ⟨u.toNat, by omega⟩
      rw [join_flat _ (by decide +kernel)]
      obtain ⟨c, ec, hc⟩ := atI_in (xs := tl "ABCDEFGHIJ") j0 (by rw [lUp]; omega)
      walk_at "wp"
      have lf : (flat zs).length = n := by rw [len_tl, lT]
      have lw : ∀ z : Str, z.length ≤ 20 → z.length ≤ sizeLine := fun z h => big _ (by omega)
      have l1 : (cutS (flat zs) none (some (k : Int))).length ≤ 4 := by
        rw [len_tl, cut_take, List.length_take, lT]
        omega
      have l2 : (cutS (flat zs) (some (k : Int)) none).length ≤ 4 := by
        rw [len_tl, cut_drop, List.length_drop, lT]
        omega
      have l3 : ((⟨#[c]⟩ : Str)).length = 1 := rfl
      have eW : tl (cutS (flat zs) none (some (k : Int)) ++ ⟨#[c]⟩ ++ cutS (flat zs) (some (k : Int)) none) = (tl (flat zs)).take k ++ c :: (tl (flat zs)).drop k := by
        rw [tl_append, tl_append, cut_take, cut_drop, tl1, List.append_assoc]
        rfl
      have lW : ((tl (flat zs)).take k ++ c :: (tl (flat zs)).drop k).length = n + 1 := by
        rw [List.length_append, List.length_cons, List.length_take, List.length_drop, lT]
        omega
      have aW : ∀ x ∈ (tl (flat zs)).take k ++ c :: (tl (flat zs)).drop k, x = c ∨ x ∈ tl "abcdefghijklmnopqrstuvwxyz_0123456789" := fun x hx => by
        rcases List.mem_append.mp hx with h | h
        · exact .inr (hT _ (List.mem_of_mem_take h))
        · rcases List.mem_cons.mp h with h | h
          · exact .inl h
          · exact .inr (hT _ (List.mem_of_mem_drop h))
      obtain ⟨W, hW⟩ : ∃ W : Str, cutS (flat zs) none (some (k : Int)) ++ ⟨#[c]⟩ ++ cutS (flat zs) (some (k : Int)) none = W := ⟨_, rfl⟩
      rw [hW] at eW
      generalize (tl (flat zs)).take k ++ c :: (tl (flat zs)).drop k = L at eW lW aW
      obtain ⟨x, r, rfl⟩ : ∃ x r, L = x :: r := by
        cases L with
        | nil => simp at lW
        | cons x r => exact ⟨x, r, rfl⟩
      have lenW : W.length = n + 1 := by rw [len_tl, eW, lW]
      have lr : r.length = n := by simpa using lW
      have wc : ∀ y ∈ x :: r, isWordC y = true := fun y hy => by
        rcases aW y hy with h | h
        · rw [h]
          exact isW _ (hUp _ hc)
        · exact hLet _ h
      have s03 := s2.trans s3
      refine ⟨big _ (by omega), by decide +kernel, c, ec, big _ (by omega), big _ (by omega), ?_, ?_, x, ?_, by decide +kernel, x, rfl, ?_⟩
      · rw [len_app]
        exact big _ (by omega)
      · rw [hW]
        exact big _ (by omega)
      · rw [hW]
        show atI (tl W) 0 = some x
        rw [eW]
        exact atI_nat (xs := x :: r) (j := 0) rfl
      · have e26 : tl (cutS (Str.ofString "abcdefghijklmnopqrstuvwxyz_0123456789") (some 26) none) = (tl "abcdefghijklmnopqrstuvwxyz_0123456789").drop 26 := cut_drop _ 26
        rw [hW]
        split
        · have lv : (Str.ofString "v").length = 1 := by decide +kernel
          refine ⟨big _ (by omega), q _ _ s03 ⟨118, x :: r, ?_, by decide, wc, by rw [List.length_cons]; omega⟩⟩
          rw [tl_append, eW]
          rfl
        · rename_i hx
          refine q _ _ s03 ⟨x, r, eW, ?_, fun y hy => wc y (List.mem_cons_of_mem _ hy), by omega⟩
          rcases aW x List.mem_cons_self with h | h
          · rw [h]
            exact hUp _ hc
          · rw [← List.take_append_drop 26 (tl (Str.ofString "abcdefghijklmnopqrstuvwxyz_0123456789"))] at h
            rcases List.mem_append.mp h with h | h
            · exact hLow _ h
            · exact absurd (decide_eq_true (by rw [← e26] at h; exact h)) hx
def LE : List Str := [";", "{", "}", "||"]
def NB : List Str := ["[", "("]
def NA : List Str := [",", ";", ":", "[", "]", "(", ")"]
abbrev SP : Str := "  "
abbrev BL : Str := " "
abbrev NL : Str := "\n"
abbrev CB : Str := "}"
abbrev OB : Str := "{"
/-- a token: not empty, not long -/
def Tok2 (z : Str) : Prop := 1 ≤ z.length ∧ z.length ≤ 20
def put1 (text last v : Str) : Str := if last ∈ NB ∨ v ∈ NA then text ++ v else text ++ BL ++ v
def lineGo (text last : Str) : List Str → Str
  | [] => text
  | v :: r => lineGo (put1 text last v) v r
def lineB : List Str → Nat → Str
  | [], _ => Str.empty
  | v :: r, d => lineGo (rep SP (if v = CB then d - 1 else d) ++ v) v r
theorem lineGo_snoc : ∀ (r : List Str) (text last v : Str), lineGo text last (r ++ [v]) = put1 (lineGo text last r) ((last :: r).getLast (List.cons_ne_nil _ _)) v
  | [], _, _, _ => rfl
  | u :: r, text, last, v => by
    show lineGo (put1 text last u) u (r ++ [v]) = _
    rw [lineGo_snoc r]
    rfl
theorem put1_len (text last v : Str) : (put1 text last v).length ≤ text.length + 1 + v.length := by
  have e : BL.length = 1 := by decide +kernel
  unfold put1
  split
  · rw [len_app]; omega
  · rw [len_app, len_app, e]; omega
theorem lineGo_len : ∀ (r : List Str) (text last : Str), (∀ z ∈ r, Tok2 z) → (lineGo text last r).length ≤ text.length + 21 * r.length
  | [], _, _, _ => Nat.le_refl _
  | u :: r, text, last, h => by
    have h1 := lineGo_len r (put1 text last u) u fun z hz => h z (List.mem_cons_of_mem _ hz)
    have h2 := put1_len text last u
    have h3 := (h u List.mem_cons_self).2
    rw [List.length_cons]
    show (lineGo (put1 text last u) u r).length ≤ _
    omega
theorem lineB_len (row : List Str) (d : Nat) (h : ∀ z ∈ row, Tok2 z) : (lineB row d).length ≤ 2 * d + 21 * row.length := by
  cases row with
  | nil => exact Nat.zero_le _
  | cons v r =>
    have h1 := lineGo_len r (rep SP (if v = CB then d - 1 else d) ++ v) v fun z hz => h z (List.mem_cons_of_mem _ hz)
    have h3 := (h v List.mem_cons_self).2
    have e : SP.length = 2 := by decide +kernel
    rw [len_app, rep_len, e] at h1
    have hd : (if v = CB then d - 1 else d) ≤ d := by split <;> omega
    have hm : 2 * (if v = CB then d - 1 else d) ≤ 2 * d := Nat.mul_le_mul_left _ hd
    rw [List.length_cons]
    show (lineGo _ v r).length ≤ _
    omega
theorem last_take : ∀ (r : List Str) (v : Str) (i : Nat), i ≤ r.length → (v :: r)[i]? = some ((v :: r.take i).getLast (List.cons_ne_nil _ _))
  | _, v, 0, _ => rfl
  | u :: r, v, i + 1, h => by
    show (u :: r)[i]? = some ((v :: u :: r.take i).getLast _)
    rw [List.getLast_cons_cons]
    exact last_take r u i (by simpa using h)
def sp_law_line (K : PySem.W.Frag) : Sp := fun vs H Q _ => ∃ (l : Addr) (row : List Str) (d : Nat), vs = [.ref l, .int (d : Int)] ∧ SqL K H l (row.map V.str) ∧ row ≠ [] ∧ (∀ z ∈ row, Tok2 z) ∧ row.length ≤ 60 ∧ d ≤ 60 ∧ ∀ H', Same H H' → Q (.str (lineB row d ++ NL)) H'
theorem ok_law_line (T : Txt K mg A) : FnOk P w K mg base CX0 1 A.f_law_line A.d_law_line ["row", "depth"] (sp_law_line K) := by
  refine T.F_law_line.ok sc_law_line (fun vs H Q E h => ?_) (fun cdv A' outer s H vs Q E hr h => ?_)
  · obtain ⟨l, row, d, rfl, _⟩ := h
    rfl
  · obtain ⟨l, row, d, rfl, hL, hne, ht, hl, hd, q⟩ := h
    obtain ⟨v, r, rfl⟩ : ∃ v r, row = v :: r := by
      cases row with
      | nil => exact absurd rfl hne
      | cons v r => exact ⟨v, r, rfl⟩
    have eSP : SP.length = 2 := by decide +kernel
    have eBL : BL.length = 1 := by decide +kernel
    have eNL : NL.length = 1 := by decide +kernel
    have big : ∀ n : Nat, n ≤ 2000 → n ≤ sizeLine := fun n h => Nat.le_trans h (by decide)
    have ht0 : v.length ≤ 20 := (ht v List.mem_cons_self).2
    rw [List.length_cons] at hl
    have ⟨R, hR, kR⟩ : ∃ R, PSs (cxOf CX0 P w K mg base ["row", "depth", "text", "k"] "_law_line" (defScope s_law_line) A.f_law_line cdv A' outer s H E).nox ((defBody s_law_line).drop 1) R ∧
        ∀ d' : Nat, d' ≤ 60 → d' = (if v = CB then d - 1 else d) → R { nx := fun _ H' => Q .non H', rt := Q } [some (V.ref l), some (V.int (d' : Int)), none, none] H := by
      refine ⟨_, (pss_cons (ps_set (i := 2) sc_law_line.nd rfl (Or.inl rfl) (pe_op op_add_str (pe_op op_repS pe_str (pv 1)) (pe_ix ix_list (pv 0) pe_int (fun _ _ => rfl)))) 
    (pss_cons (ps_for PassesOwn.never rfl (pi_range2 (by rfl) T.b_range (pa_cons pe_int (pa_cons (pe_callB call_len_seq (by rfl) T.b_len (by decide +kernel) (pa_cons (pv 0) pa_nil)) pa_nil))) (pg_name (i := 3) sc_law_line.nd rfl (Or.inl rfl)) 
      (pss_one (ps_if (PW.pt (pw_or (pt_cmpR op_in_seq (pe_ix ix_list (pv 0) (pe_op op_sub (pv 3) pe_int) (fun _ _ => rfl)) (pe_lst (pa_cons pe_str (pa_cons pe_str pa_nil))) (by rfl)) (pw_or1 (pt_cmpR op_in_seq (pe_ix ix_list (pv 0) (pv 3) (fun _ _ => rfl)) (pe_lst (pa_cons pe_str (pa_cons pe_str (pa_cons pe_str (pa_cons pe_str (pa_cons pe_str (pa_cons pe_str (pa_cons pe_str pa_nil)))))))) (by rfl))))) 
        (pss_one (ps_set (i := 2) sc_law_line.nd rfl (Or.inl rfl) (pe_op op_add_str (pv 2) (pe_ix ix_list (pv 0) (pv 3) (fun _ _ => rfl))))) 
        (pss_one (ps_set (i := 2) sc_law_line.nd rfl (Or.inl rfl) (pe_op op_add_str (pe_op op_add_str (pv 2) pe_str) (pe_ix ix_list (pv 0) (pv 3) (fun _ _ => rfl)))))))) 
    (pss_one (ps_ret (pe_op op_add_str (pv 2) pe_str))))), fun d' hd' ed => ?_⟩
      walk_at "wp"
      refine ⟨d', rfl, by decide +kernel, by omega, _, hL, _, atI_nat (j := 0) rfl, _, rfl, ?_⟩
      refine ⟨by rw [rep_len]; exact big _ (by rw [show (Str.ofString "  ").length = 2 from eSP]; omega), _, .inl hL, ?_⟩
      rw [List.length_map, List.length_cons]
      refine ⟨by decide, by decide, by omega, by omega, ?_⟩
      have e1 : (((r.length + 1 : Nat) : Int) - 1).toNat = r.length := by omega
      rw [e1]
      obtain ⟨Pv, hPv⟩ : ∃ Pv : Nat → St → Hp → Prop, ∀ i σ H', Pv i σ H' ↔ Same H H' ∧ ∃ v3 : Option V, σ = [some (V.ref l), some (V.int (d' : Int)), some (V.str (lineGo (rep SP d' ++ v) v (r.take i))), v3] := ⟨_, fun _ _ _ => Iff.rfl⟩
      refine loop_it (walk_range (lo := 1) (n := r.length)) Pv ((hPv _ _ _).mpr ⟨Same.refl _, none, rfl⟩) (fun _ _ _ _ _ => trivial) ?_ ?_
      · intro i x σ H1 H2 hi pw y
        obtain ⟨s1, v3, rfl⟩ := (hPv _ _ _).mp pw
        obtain ⟨rfl, ex⟩ := y
        have ex2 : x = V.int ((i + 1 : Nat) : Int) := by rw [ex]; show V.int (1 + (i : Int)) = _; congr 1; omega
        subst ex2
        have hlen : (lineGo (rep SP d' ++ v) v (r.take i)).length ≤ 1500 := by
          have h1 := lineGo_len (r.take i) (rep SP d' ++ v) v fun z hz => ht z (List.mem_cons_of_mem _ (List.mem_of_mem_take hz))
          have h2 : (r.take i).length ≤ 60 := by rw [List.length_take]; omega
          rw [len_app, rep_len, eSP] at h1
          omega
        have g1 : (v :: r)[i]? = some ((v :: r.take i).getLast (List.cons_ne_nil _ _)) := last_take r v i (by omega)
        generalize (v :: r.take i).getLast (List.cons_ne_nil _ _) = pr at g1
        have gl : (v :: r.take i).getLast (List.cons_ne_nil _ _) = pr := Option.some.inj ((last_take r v i (by omega)).symm.trans g1)
        have g2 : (v :: r)[i + 1]? = some r[i] := List.getElem?_eq_getElem hi
        have hu : r[i].length ≤ 20 := (ht _ (List.mem_cons_of_mem _ (List.getElem_mem hi))).2
        have a1 : atI ((v :: r).map V.str) ((((i + 1 : Nat) : Int)) - 1) = some (V.str pr) := by
          rw [show ((((i + 1 : Nat) : Int)) - 1) = (i : Int) by omega]
          exact atI_nat (by rw [List.getElem?_map, g1]; rfl)
        have a2 : atI ((v :: r).map V.str) (((i + 1 : Nat) : Int)) = some (V.str r[i]) := atI_nat (by rw [List.getElem?_map, g2]; rfl)
        have fin : ∀ (H3 : Hp) (z : Str), Same H2 H3 → z = put1 (lineGo (rep SP d' ++ v) v (r.take i)) pr r[i] → Pv (i + 1) [some (V.ref l), some (V.int (d' : Int)), some (V.str z), some (V.int (((i + 1 : Nat) : Int)))] H3 := fun H3 z s3 ez =>
          (hPv _ _ _).mpr ⟨s1.trans s3, some (V.int (((i + 1 : Nat) : Int))), by rw [ez, List.take_succ_eq_append_getElem hi, lineGo_snoc, gl]⟩
        walk_at "wp"
        refine ⟨_, s1.seq hL, _, a1, by decide, fun p1 n1 => rin NB (.inl (SqL.of upd_same)) ⟨_, rfl, ?_⟩⟩
        have s3 := same_upd (o := .lst [V.str (Str.ofString "["), V.str (Str.ofString "(")]) n1
        by_cases hb : pr ∈ NB
        · rw [if_pos (decide_eq_true hb)]
          refine ⟨_, s3.seq (s1.seq hL), _, a2, _, rfl, big _ (by omega), fin _ _ s3 ?_⟩
          unfold put1
          rw [if_pos (.inl hb)]
        · rw [if_neg (by rw [decide_eq_true_eq]; exact hb)]
          refine ⟨_, s3.seq (s1.seq hL), _, a2, by decide, fun p2 n2 => rin NA (.inl (SqL.of upd_same)) ⟨_, rfl, ?_⟩⟩
          have s4 := s3.trans (same_upd (o := .lst [V.str (Str.ofString ","), V.str (Str.ofString ";"), V.str (Str.ofString ":"), V.str (Str.ofString "["), V.str (Str.ofString "]"), V.str (Str.ofString "("), V.str (Str.ofString ")")]) n2)
          by_cases ha : r[i] ∈ NA
          · rw [if_pos (decide_eq_true ha)]
            refine ⟨_, s4.seq (s1.seq hL), _, a2, _, rfl, big _ (by omega), fin _ _ s4 ?_⟩
            unfold put1
            rw [if_pos (.inr ha)]
          · rw [if_neg (by rw [decide_eq_true_eq]; exact ha)]
            refine ⟨big _ (by rw [show (Str.ofString " ").length = 1 from eBL]; omega), _, s4.seq (s1.seq hL), _, a2, _, rfl, big _ (by rw [len_app, show (Str.ofString " ").length = 1 from eBL]; omega), fin _ _ s4 ?_⟩
            unfold put1
            rw [if_neg (fun h => h.elim hb ha)]
      · intro σ H1 pw
        obtain ⟨s1, v3, rfl⟩ := (hPv _ _ _).mp pw
        walk_at "wp"
        rw [List.take_length, ed]
        have h1 := lineB_len (v :: r) d ht
        rw [List.length_cons] at h1
        exact ⟨big _ (by rw [show (Str.ofString "\n").length = 1 from eNL]; show (lineB (v :: r) d).length + 1 ≤ 2000; omega), q _ s1⟩
    refine ⟨_, (pss_cons (ps_if (pt_cmpR op_eq (pe_ix ix_list (pv 0) pe_int (fun _ _ => rfl)) pe_str (nomark _)) 
      (pss_one (ps_set (i := 1) sc_law_line.nd rfl (Or.inl rfl) (pe_callB (call_max2 rfl) (by rfl) T.b_max (by decide +kernel) (pa_cons pe_int (pa_cons (pe_op op_sub (pv 1) pe_int) pa_nil))))) pss_nil) hR), ?_⟩
    walk_at "wp"
    refine ⟨_, hL, _, atI_nat (j := 0) rfl, ?_⟩
    walk_at "wp"
    by_cases hv : v = CB
    · rw [if_pos (decide_eq_true hv)]
      have e : (if (d : Int) - 1 > 0 then (d : Int) - 1 else 0) = ((d - 1 : Nat) : Int) := by split <;> omega
      rw [e]
      exact kR (d - 1) (by omega) (by rw [if_pos hv])
    · rw [if_neg (by rw [decide_eq_true_eq]; exact hv)]
      exact kR d hd (by rw [if_neg hv])
structure NSt where
  text : Str
  row : List Str
  depth : Nat
  begin_ : Nat
def d2of (v : Str) (d : Nat) : Nat := if v = CB then (if v = OB then d + 1 else d) - 1 else if v = OB then d + 1 else d
def nstep (s : NSt) (v : Str) : NSt :=
  if v ∈ LE then ⟨s.text ++ (lineB (s.row ++ [v]) s.begin_ ++ NL), [], d2of v s.depth, d2of v s.depth⟩ else ⟨s.text, s.row ++ [v], d2of v s.depth, s.begin_⟩
def nOut (s : NSt) : Str := if s.row = [] then s.text else s.text ++ (lineB s.row s.begin_ ++ NL)
def nrun (ts : List Str) : NSt := ts.foldl nstep ⟨Str.empty, [], 0, 0⟩
theorem nrun_snoc (ts : List Str) (v : Str) : nrun (ts ++ [v]) = nstep (nrun ts) v := by
  unfold nrun
  rw [List.foldl_append]
  rfl
theorem d2of_le (v : Str) (d : Nat) : d2of v d ≤ d + 1 := by
  unfold d2of
  split <;> split <;> omega
structure NOk (i : Nat) (s : NSt) : Prop where
  dep : s.depth ≤ i
  beg : s.begin_ ≤ i
  row : s.row.length ≤ i
  tok : ∀ z ∈ s.row, Tok2 z
  txt : s.text.length ≤ 2000 * i
theorem NOk.step {i : Nat} {s : NSt} {v : Str} (x : NOk i s) (hi : i < 60) (hv : Tok2 v) : NOk (i + 1) (nstep s v) := by
  have h1 := d2of_le v s.depth
  have h2 := x.dep
  have h3 := x.beg
  have h4 := x.row
  have h5 := x.txt
  have h6 : ∀ z ∈ s.row ++ [v], Tok2 z := fun z hz => by
    rcases List.mem_append.mp hz with h | h
    · exact x.tok _ h
    · rw [List.mem_singleton.mp h]
      exact hv
  have h7 := lineB_len (s.row ++ [v]) s.begin_ h6
  rw [List.length_append, List.length_singleton] at h7
  have eNL : NL.length = 1 := by decide +kernel
  unfold nstep
  split
  · refine ⟨by show d2of v s.depth ≤ _; omega, by show d2of v s.depth ≤ _; omega, Nat.zero_le _, fun z hz => (by cases hz), ?_⟩
    show (s.text ++ (lineB (s.row ++ [v]) s.begin_ ++ NL)).length ≤ _
    rw [len_app, len_app, eNL]
    omega
  · refine ⟨by show d2of v s.depth ≤ _; omega, by show s.begin_ ≤ _; omega, ?_, h6, by show s.text.length ≤ _; omega⟩
    show (s.row ++ [v]).length ≤ _
    rw [List.length_append, List.length_singleton]
    omega
theorem NOk.run : ∀ (ts : List Str), ts.length ≤ 60 → (∀ z ∈ ts, Tok2 z) → ∀ i, i ≤ ts.length → NOk i (nrun (ts.take i))
  | ts, hl, ht, 0, _ => ⟨Nat.le_refl _, Nat.le_refl _, Nat.le_refl _, fun z hz => (by cases hz), Nat.le_refl _⟩
  | ts, hl, ht, i + 1, hi => by
    rw [List.take_succ_eq_append_getElem hi, nrun_snoc]
    exact (NOk.run ts hl ht i (by omega)).step (by omega) (ht _ (List.getElem_mem hi))
def sp_law_normal (K : PySem.W.Frag) : Sp := fun vs H Q _ => ∃ (l : Addr) (ts : List Str), vs = [.ref l] ∧ SqL K H l (ts.map V.str) ∧ (∀ z ∈ ts, Tok2 z) ∧ ts.length ≤ 60 ∧ ∀ H', Same H H' → Q (.str (nOut (nrun ts))) H'
theorem ok_law_normal (T : Txt K mg A) : FnOk P w K mg base CX0 2 A.f_law_normal A.d_law_normal ["tokens"] (sp_law_normal K) := by
  have G_law_line := ok_law_line (P := P) (w := w) (base := base) T
  refine T.F_law_normal.ok sc_law_normal (fun vs H Q E h => ?_) (fun cdv A' outer s H vs Q E hr h => ?_)
  · obtain ⟨l, ts, rfl, _⟩ := h
    rfl
  · obtain ⟨l, ts, rfl, hL, ht, hl, q⟩ := h
    have big : ∀ n : Nat, n ≤ 200000 → n ≤ sizeLine := fun n h => Nat.le_trans h (by decide)
    have eNL : NL.length = 1 := by decide +kernel
    refine ⟨_, (pss_cons (ps_set (i := 1) sc_law_normal.nd rfl (Or.inl rfl) pe_str) 
    (pss_cons (ps_set (i := 2) sc_law_normal.nd rfl (Or.inl rfl) (pe_lst pa_nil)) 
    (pss_cons (ps_set (i := 3) sc_law_normal.nd rfl (Or.inl rfl) pe_int) 
    (pss_cons (ps_set (i := 4) sc_law_normal.nd rfl (Or.inl rfl) pe_int) 
    (pss_cons (ps_for PassesOwn.never rfl (pi_list (pv 0)) (pg_name (i := 5) sc_law_normal.nd rfl (Or.inl rfl)) 
      (pss_cons (ps_expr (pe_bm PySem.F.plainAttrs_list PySem.F.slot_list_append PySem.F.type_list_append mt_append (pv 2) (pa_cons (pv 5) pa_nil))) 
      (pss_cons (ps_if (pt_cmpR op_eq (pv 5) pe_str (nomark _)) 
        (pss_one (ps_set (i := 3) sc_law_normal.nd rfl (Or.inl rfl) (pe_op op_add (pv 3) pe_int))) pss_nil) 
      (pss_cons (ps_if (pt_cmpR op_eq (pv 5) pe_str (nomark _)) 
        (pss_one (ps_set (i := 3) sc_law_normal.nd rfl (Or.inl rfl) (pe_callB (call_max2 rfl) (by rfl) T.b_max (by decide +kernel) (pa_cons pe_int (pa_cons (pe_op op_sub (pv 3) pe_int) pa_nil))))) pss_nil) 
      (pss_one (ps_if (pt_cmpR op_in_seq (pv 5) (pe_lst (pa_cons pe_str (pa_cons pe_str (pa_cons pe_str (pa_cons pe_str pa_nil))))) (by rfl)) 
        (pss_cons (ps_set (i := 1) sc_law_normal.nd rfl (Or.inl rfl) (pe_op op_add_str (pv 1) (pe_call G_law_line hr (by rfl) T.g_law_line T.F_law_line.kp T.B_law_line .nil pass0 (pa_cons (pv 2) (pa_cons (pv 4) pa_nil))))) 
        (pss_cons (ps_set (i := 2) sc_law_normal.nd rfl (Or.inl rfl) (pe_lst pa_nil)) 
        (pss_one (ps_set (i := 4) sc_law_normal.nd rfl (Or.inl rfl) (pv 3))))) pss_nil)))))) 
    (pss_cons (ps_if (pt_truth (pv 2) (by intro _; rfl)) 
      (pss_one (ps_set (i := 1) sc_law_normal.nd rfl (Or.inl rfl) (pe_op op_add_str (pv 1) (pe_call G_law_line hr (by rfl) T.g_law_line T.F_law_line.kp T.B_law_line .nil pass0 (pa_cons (pv 2) (pa_cons (pv 4) pa_nil)))))) pss_nil) 
    (pss_one (ps_ret (pv 1))))))))), ?_⟩
    walk_at "wp"
    refine ⟨Nat.zero_le _, fun r0 n0 => ?_⟩
    refine ⟨⟨_, (same_upd n0).seq hL⟩, ?_⟩
    obtain ⟨Pv, hPv⟩ : ∃ Pv : Nat → St → Hp → Prop, ∀ i σ H', Pv i σ H' ↔ ∃ (rl : Addr) (v6 : Option V), Same H H' ∧ H rl = none ∧ H' rl = some (.lst ((nrun (ts.take i)).row.map V.str)) ∧
      σ = [some (V.ref l), some (V.str (nrun (ts.take i)).text), some (V.ref rl), some (V.int ((nrun (ts.take i)).depth : Int)), some (V.int ((nrun (ts.take i)).begin_ : Int)), v6] := ⟨_, fun _ _ _ => Iff.rfl⟩
    refine loop_it (walk_list (xs := ts.map V.str)) Pv ((hPv _ _ _).mpr ⟨r0, none, same_upd n0, n0, upd_same, rfl⟩) (fun i σ H' _ pw => ?_) ?_ ?_
    · obtain ⟨_, _, s1, _⟩ := (hPv _ _ _).mp pw
      exact s1.seq hL
    · intro i x σ H1 H2 hi pw y
      obtain ⟨rl, v6, s1, nr, er, rfl⟩ := (hPv _ _ _).mp pw
      obtain ⟨rfl, ex⟩ := yat_at y
      rw [List.length_map] at hi
      rw [List.getElem?_map, List.getElem?_eq_getElem hi] at ex
      cases ex
      have ok := NOk.run ts hl ht i (by omega)
      have hv := ht _ (List.getElem_mem hi)
      have st := nrun_snoc (ts.take i) ts[i]
      rw [← List.take_succ_eq_append_getElem hi] at st
      generalize ts[i] = v at hv st ⊢
      generalize nrun (ts.take i) = S at er ok st ⊢
      have o1 := ok.dep
      have o2 := ok.beg
      have o3 := ok.row
      have o4 := ok.txt
      have hrow : ∀ z ∈ S.row ++ [v], Tok2 z := fun z hz => by
        rcases List.mem_append.mp hz with h | h
        · exact ok.tok _ h
        · rw [List.mem_singleton.mp h]
          exact hv
      have el : (S.row.map V.str ++ [V.str v]) = (S.row ++ [v]).map V.str := by rw [List.map_append]; rfl
      have s2 : Same H (upd H2 rl (.lst ((S.row ++ [v]).map V.str))) := same_upd2 s1 nr
      walk_at "wp"
      refine ⟨.inl ⟨rfl, _, SqL.of er⟩, _, er, small1000 (by rw [List.length_map]; omega), ?_⟩
      rw [el]
      have hline : (lineB (S.row ++ [v]) S.begin_).length ≤ 1500 := by
        have h7 := lineB_len (S.row ++ [v]) S.begin_ hrow
        rw [List.length_append, List.length_singleton] at h7
        omega
      have fin1 : ∀ (H3 : Hp) (p : Addr) (z : Int), Same H H3 → H3 p = none → v ∈ LE → z = ((d2of v S.depth : Nat) : Int) →
          Pv (i + 1) [some (V.ref l), some (V.str (S.text ++ (lineB (S.row ++ [v]) S.begin_ ++ NL))), some (V.ref p), some (V.int z), some (V.int z), some (V.str v)] (upd H3 p (.lst [])) := fun H3 p z s3 np hv3 ez => by
        refine (hPv _ _ _).mpr ⟨p, some (V.str v), s3.trans (same_upd np), s3.free np, ?_, ?_⟩
        · rw [st, upd_same]
          unfold nstep
          rw [if_pos hv3]
          rfl
        · rw [st]
          unfold nstep
          rw [if_pos hv3, ez]
      have fin2 : ∀ (H3 : Hp) (z : Int), Same H H3 → H3 rl = some (.lst ((S.row ++ [v]).map V.str)) → v ∉ LE → z = ((d2of v S.depth : Nat) : Int) →
          Pv (i + 1) [some (V.ref l), some (V.str S.text), some (V.ref rl), some (V.int z), some (V.int (S.begin_ : Int)), some (V.str v)] H3 := fun H3 z s3 e3 hv3 ez => by
        refine (hPv _ _ _).mpr ⟨rl, some (V.str v), s3, nr, ?_, ?_⟩
        · rw [st, e3]
          unfold nstep
          rw [if_neg hv3]
        · rw [st]
          unfold nstep
          rw [if_neg hv3, ez]
      split <;> split <;> rename_i h1 h2 <;> simp only [decide_eq_true_eq] at h1 h2 <;> refine ⟨by decide, fun p1 n1 => rin LE (.inl (SqL.of upd_same)) ⟨_, rfl, ?_⟩⟩ <;> (
        have s3 := s2.trans (same_upd (o := .lst [V.str (Str.ofString ";"), V.str (Str.ofString "{"), V.str (Str.ofString "}"), V.str (Str.ofString "||")]) n1)
        have e3 := (same_upd (o := .lst [V.str (Str.ofString ";"), V.str (Str.ofString "{"), V.str (Str.ofString "}"), V.str (Str.ofString "||")]) n1) _ _ (upd_same (H := H2) (a := rl) (o := .lst ((S.row ++ [v]).map V.str)))
        have ed : ∀ z : Int, z = (if v = CB then (if (if v = OB then (S.depth : Int) + 1 else S.depth) - 1 > 0 then (if v = OB then (S.depth : Int) + 1 else S.depth) - 1 else 0) else if v = OB then (S.depth : Int) + 1 else S.depth) → z = ((d2of v S.depth : Nat) : Int) := fun z ez => by
          rw [ez]
          unfold d2of
          repeat' split
          all_goals omega
        by_cases hv3 : v ∈ LE
        · rw [if_pos (decide_eq_true hv3)]
          refine ⟨rl, S.row ++ [v], S.begin_, rfl, SqL.of e3, by simp, hrow, by simp; omega, by omega, fun H4 s4 => ⟨_, rfl, ?_, Nat.zero_le _, fun p2 n2 => fin1 _ _ _ (s3.trans s4) n2 hv3 (ed _ ?_)⟩⟩
          · rw [len_app, eNL]
            exact big _ (by omega)
          · first | (rw [if_pos h2]; first | rw [if_pos h1] | rw [if_neg h1]) | (rw [if_neg h2]; first | rw [if_pos h1] | rw [if_neg h1])
        · rw [if_neg (by rw [decide_eq_true_eq]; exact hv3)]
          refine fin2 _ _ s3 e3 hv3 (ed _ ?_)
          first | (rw [if_pos h2]; first | rw [if_pos h1] | rw [if_neg h1]) | (rw [if_neg h2]; first | rw [if_pos h1] | rw [if_neg h1]))
    · intro σ H1 pw
      obtain ⟨rl, v6, s1, nr, er, rfl⟩ := (hPv _ _ _).mp pw
      rw [List.length_map, List.take_length] at er
      rw [List.length_map, List.take_length]
      walk_at "wp"
      have ok := NOk.run ts hl ht ts.length (Nat.le_refl _)
      rw [List.take_length] at ok
      generalize hS : nrun ts = S at *
      have o2 := ok.beg
      have o3 := ok.row
      have o4 := ok.txt
      have hline : (lineB S.row S.begin_).length ≤ 1500 := by
        have h7 := lineB_len S.row S.begin_ ok.tok
        omega
      refine ⟨!(S.row.map V.str).isEmpty, .inl ⟨_, SqL.of er, rfl⟩, ?_⟩
      have e0 : nOut S = if S.row = [] then S.text else S.text ++ (lineB S.row S.begin_ ++ NL) := rfl
      rw [e0] at q
      by_cases hr0 : S.row = []
      · rw [if_pos hr0] at q
        rw [hr0]
        exact q _ s1
      · rw [if_neg hr0] at q
        rw [if_pos (by cases h : S.row with
          | nil => exact absurd h hr0
          | cons a b => rfl)]
        refine ⟨rl, S.row, S.begin_, rfl, SqL.of er, hr0, ok.tok, by omega, by omega, fun H4 s4 => ?_⟩
        walk_at "wp"
        refine ⟨?_, q _ (s1.trans s4)⟩
        rw [len_app, eNL]
        exact big _ (by omega)
def forBody : Stmt → List Stmt
  | .For _ _ b _ _ => b
  | _ => []
structure Pr where
  t : Addr
  k : Str
  v : V
  z : Str
inductive TokOf : V → Str → Prop where
  | str (z : Str) (h : PyData.strOk z = true) : TokOf (.str z) z
  | int (n : Nat) (h : n < 10000000000) : TokOf (.int (n : Int)) (Str.ofString (toString ((n : Nat) : Int)))
structure PrOk (K : PySem.W.Frag) (H : Hp) (r : Pr) : Prop where
  at_ : SqT K H r.t [.str r.k, r.v]
  tok : TokOf r.v r.z
  sz : Tok2 r.z
  ks : PyData.strOk r.k = true
theorem PrOk.same {K : PySem.W.Frag} {H H' : Hp} {r : Pr} (x : PrOk K H r) (e : Same H H') : PrOk K H' r := ⟨sameT e x.at_, x.tok, x.sz, x.ks⟩
abbrev EM : Str := ""
structure WSt where
  ps : List Str
  depth : Nat
  last : Str
def wd1 (v : Str) (d : Nat) : Nat := if v = CB then d - 1 else d
def wps (s : WSt) (v : Str) : List Str := if s.last = EM then s.ps ++ [rep SP (wd1 v s.depth)] else if s.last ∉ NB ∧ v ∉ NA then s.ps ++ [BL] else s.ps
def wfin (ps : List Str) (d : Nat) (v : Str) : WSt := if v ∈ LE then ⟨ps ++ [v] ++ [NL], if v = OB then d + 1 else d, EM⟩ else ⟨ps ++ [v], if v = OB then d + 1 else d, v⟩
def wstep (s : WSt) (v : Str) : WSt := wfin (wps s v) (wd1 v s.depth) v
def wrun (ts : List Str) : WSt := ts.foldl wstep ⟨[], 0, EM⟩
theorem wrun_snoc (ts : List Str) (v : Str) : wrun (ts ++ [v]) = wstep (wrun ts) v := by
  unfold wrun
  rw [List.foldl_append]
  rfl
def wOut (s : WSt) : List Str := if s.last = EM then s.ps else s.ps ++ [NL]
def sp_write_signs (K : PySem.W.Frag) : Sp := fun vs H Q _ => ∃ (l : Addr) (rs : List Pr), vs = [.ref l] ∧ SqL K H l (rs.map fun r => V.ref r.t) ∧ (∀ r ∈ rs, PrOk K H r) ∧ rs.length ≤ 60 ∧ ∀ H', Same H H' → Q (.str (flat (wOut (wrun (rs.map Pr.z))))) H'
def sp_law_is_integer (K : PySem.W.Frag) : Sp := fun vs H Q _ => ∃ i : Int, vs = [.int i] ∧ Q (.bl true) H
def sp_law_same (K : PySem.W.Frag) : Sp := fun vs H Q _ => ∃ z : Str, vs = [.str z, .str z] ∧ Q (.bl true) H
def sp_law_pair (K : PySem.W.Frag) : Sp := fun vs H Q _ => ∃ (st d p : Addr), vs = [.ref st] ∧ Stm H st d p ∧ ∀ H' t k v z, Stp p H H' → H' t = some (.tup [.str k, v]) → TokOf v z → Tok2 z → PyData.strOk k = true → Q (.ref t) H'

structure WOk (i : Nat) (S : WSt) : Prop where
  dep : S.depth ≤ i
  cnt : S.ps.length ≤ 3 * i
  len : (flat S.ps).length ≤ 200 * i
theorem WOk.step {i : Nat} {S : WSt} {v : Str} (x : WOk i S) (hi : i < 60) (hv : Tok2 v) : WOk (i + 1) (wstep S v) := by
  have h1 := x.dep
  have h2 := x.cnt
  have h3 := x.len
  have h4 := hv.2
  have d1 : wd1 v S.depth ≤ S.depth := by unfold wd1; split <;> omega
  have eSP : SP.length = 2 := by decide +kernel
  have eBL : BL.length = 1 := by decide +kernel
  have eNL : NL.length = 1 := by decide +kernel
  have p1 : (wps S v).length ≤ S.ps.length + 1 ∧ (flat (wps S v)).length ≤ (flat S.ps).length + 120 := by
    unfold wps
    split
    · rw [flat_snoc, len_app, rep_len, eSP, List.length_append, List.length_singleton]
      omega
    · split
      · rw [flat_snoc, len_app, eBL, List.length_append, List.length_singleton]
        omega
      · omega
  have d2 : (if v = OB then wd1 v S.depth + 1 else wd1 v S.depth) ≤ i + 1 := by split <;> omega
  unfold wstep wfin
  split
  · refine ⟨d2, ?_, ?_⟩
    · show (wps S v ++ [v] ++ [NL]).length ≤ _
      simp only [List.length_append, List.length_singleton]
      omega
    · show (flat (wps S v ++ [v] ++ [NL])).length ≤ _
      rw [flat_snoc, flat_snoc, len_app, len_app, eNL]
      omega
  · refine ⟨d2, ?_, ?_⟩
    · show (wps S v ++ [v]).length ≤ _
      simp only [List.length_append, List.length_singleton]
      omega
    · show (flat (wps S v ++ [v])).length ≤ _
      rw [flat_snoc, len_app]
      omega
theorem WOk.run : ∀ (ts : List Str), ts.length ≤ 60 → (∀ z ∈ ts, Tok2 z) → ∀ i, i ≤ ts.length → WOk i (wrun (ts.take i))
  | ts, hl, ht, 0, _ => ⟨Nat.le_refl _, Nat.le_refl _, Nat.le_refl _⟩
  | ts, hl, ht, i + 1, hi => by
    rw [List.take_succ_eq_append_getElem hi, wrun_snoc]
    exact (WOk.run ts hl ht i (by omega)).step (by omega) (ht _ (List.getElem_mem hi))
theorem ok_law_is_integer (T : Txt K mg A) : FnOk P w K mg base CX0 1 A.f_law_is_integer A.d_law_is_integer ["actual"] (sp_law_is_integer K) := by
  refine T.F_law_is_integer.ok sc_law_is_integer (fun vs H Q E h => ?_) (fun cdv A' outer s H vs Q E hr h => ?_)
  · obtain ⟨i, rfl, _⟩ := h
    rfl
  · obtain ⟨i, rfl, q⟩ := h
    refine ⟨_, (pss_one (ps_ret (pe_and (pe_callB call_isi (by rfl) T.b_isinstance (by decide +kernel) (pa_cons (pv 0) (pa_cons (pe_bltn (v := .ty "int") (by rfl) T.b_int (by decide +kernel) rfl) pa_nil))) (pe_one (pe_not (pe_callB call_isi (by rfl) T.b_isinstance (by decide +kernel) (pa_cons (pv 0) (pa_cons (pe_bltn (v := .ty "bool") (by rfl) T.b_bool (by decide +kernel) rfl) pa_nil)))))))), ?_⟩
    walk_at "wp"
    refine isi ty_int (r := true) (by decide +kernel) ?_
    walk_at "wp"
    refine isi ty_int (r := false) (by decide +kernel) ?_
    walk_at "wp"
    exact q
theorem ok_law_same (T : Txt K mg A) : FnOk P w K mg base CX0 2 A.f_law_same A.d_law_same ["actual", "expected"] (sp_law_same K) := by
  have G_law_is_integer := ok_law_is_integer (P := P) (w := w) (base := base) T
  refine T.F_law_same.ok sc_law_same (fun vs H Q E h => ?_) (fun cdv A' outer s H vs Q E hr h => ?_)
  · obtain ⟨z, rfl, _⟩ := h
    rfl
  · obtain ⟨z, rfl, q⟩ := h
    refine ⟨_, (pss_cons (ps_if (pt_cmpR op_isN (pv 1) pe_non (nomark _)) 
      (pss_one (ps_ret (pe_cmpR op_isN (pv 0) pe_non (nomark _)))) pss_nil) 
    (pss_cons (ps_if (pt_val (pe_callB call_isi (by rfl) T.b_isinstance (by decide +kernel) (pa_cons (pv 1) (pa_cons (pe_bltn (v := .ty "bool") (by rfl) T.b_bool (by decide +kernel) rfl) pa_nil)))) 
      (pss_one (ps_ret (pe_and (pe_callB call_isi (by rfl) T.b_isinstance (by decide +kernel) (pa_cons (pv 0) (pa_cons (pe_bltn (v := .ty "bool") (by rfl) T.b_bool (by decide +kernel) rfl) pa_nil))) (pe_one (pe_cmpR op_eq (pv 0) (pv 1) (nomark _)))))) pss_nil) 
    (pss_cons (ps_if (pt_val (pe_callB call_isi (by rfl) T.b_isinstance (by decide +kernel) (pa_cons (pv 1) (pa_cons (pe_bltn (v := .ty "int") (by rfl) T.b_int (by decide +kernel) rfl) pa_nil)))) 
      (pss_one (ps_ret (pe_and (pe_call G_law_is_integer hr (by rfl) T.g_law_is_integer T.F_law_is_integer.kp T.B_law_is_integer .nil pass0 (pa_cons (pv 0) pa_nil)) (pe_one (pe_cmpR op_eq (pv 0) (pv 1) (nomark _)))))) pss_nil) 
    (pss_cons (ps_if (pt_val (pe_callB call_isi (by rfl) T.b_isinstance (by decide +kernel) (pa_cons (pv 1) (pa_cons (pe_bltn (v := .ty "str") (by rfl) T.b_str (by decide +kernel) rfl) pa_nil)))) 
      (pss_one (ps_ret (pe_and (pe_callB call_isi (by rfl) T.b_isinstance (by decide +kernel) (pa_cons (pv 0) (pa_cons (pe_bltn (v := .ty "str") (by rfl) T.b_str (by decide +kernel) rfl) pa_nil))) (pe_one (pe_cmpR op_eq (pv 0) (pv 1) (nomark _)))))) pss_nil) 
    (pss_cons ps_never 
    (pss_cons ps_never 
    (pss_cons ps_never 
    (pss_cons ps_never 
    (pss_one (ps_ret pe_bl)))))))))), ?_⟩
    walk_at "wp"
    refine isi ty_str (r := false) (by decide +kernel) ?_
    walk_at "wp"
    refine isi ty_str (r := false) (by decide +kernel) ?_
    walk_at "wp"
    refine isi ty_str (r := true) (by decide +kernel) ?_
    walk_at "wp"
    refine isi ty_str (r := true) (by decide +kernel) ?_
    walk_at "wp"
    exact q
theorem ok_write_signs (T : Txt K mg A) : FnOk P w K mg base CX0 1 A.f_write_signs A.d_write_signs ["signs"] (sp_write_signs K) := by
  refine T.F_write_signs.ok sc_write_signs (fun vs H Q E h => ?_) (fun cdv A' outer s H vs Q E hr h => ?_)
  · obtain ⟨l, rs, rfl, _⟩ := h
    rfl
  · obtain ⟨l, rs, rfl, hL, hR, hl, q⟩ := h
    have big : ∀ n : Nat, n ≤ 200000 → n ≤ sizeLine := fun n h => Nat.le_trans h (by decide)
    have ⟨R2, hR2, kR2⟩ : ∃ R, PSs (cxOf CX0 P w K mg base ["signs", "pieces", "depth", "last", "sign", "value"] "write_signs" (defScope s_write_signs) A.f_write_signs cdv A' outer s H E).nox ((forBody ((defBody s_write_signs).getD 3 (.Pass ⟨0, 0, 0, 0⟩))).drop 3) R ∧
        ∀ (D : Ends) (H1 : Hp) (pl : Addr) (ps : List Str) (d : Nat) (last v : Str) (sg : Option V), H1 pl = some (.lst (ps.map V.str)) → ps.length ≤ 400 →
          D.nx [some (V.ref l), some (V.ref pl), some (V.int ((wfin ps d v).depth : Int)), some (V.str (wfin ps d v).last), sg, some (V.str v)] (upd H1 pl (.lst ((wfin ps d v).ps.map V.str))) →
          R D [some (V.ref l), some (V.ref pl), some (V.int (d : Int)), some (V.str last), sg, some (V.str v)] H1 := by
      refine ⟨_, (pss_cons (ps_expr (pe_bm PySem.F.plainAttrs_list PySem.F.slot_list_append PySem.F.type_list_append mt_append (pv 1) (pa_cons (pv 5) pa_nil))) 
    (pss_cons (ps_set (i := 3) sc_write_signs.nd rfl (Or.inl rfl) (pv 5)) 
    (pss_cons (ps_if (pt_cmpR op_eq (pv 5) pe_str (nomark _)) 
      (pss_one (ps_aug (i := 2) sc_write_signs.nd rfl (Or.inl rfl) pe_int ip_add)) pss_nil) 
    (pss_one (ps_if (pt_cmpR op_in_seq (pv 5) (pe_glob (v := .ref A.t_LINE_ENDS) rfl T.g_LINE_ENDS rfl) (by rfl)) 
      (pss_cons (ps_expr (pe_bm PySem.F.plainAttrs_list PySem.F.slot_list_append PySem.F.type_list_append mt_append (pv 1) (pa_cons pe_str pa_nil))) 
      (pss_one (ps_set (i := 3) sc_write_signs.nd rfl (Or.inl rfl) pe_str))) pss_nil))))), fun D H1 pl ps d last v sg e hps k => ?_⟩
      walk_at "wp"
      have el : (ps.map V.str ++ [V.str v]) = (ps ++ [v]).map V.str := by rw [List.map_append]; rfl
      refine ⟨.inl ⟨rfl, _, SqL.of e⟩, _, e, small1000 (by rw [List.length_map]; omega), ?_⟩
      rw [el]
      have el2 : ((ps ++ [v]).map V.str ++ [V.str NL]) = (ps ++ [v] ++ [NL]).map V.str := by rw [List.map_append (l₂ := [NL])]; rfl
      have lz : ((ps ++ [v]).map V.str).length < sizeLine := small1000 (by simp; omega)
      have us : (upd H1 pl (.lst ((ps ++ [v]).map V.str))) pl = some (.lst ((ps ++ [v]).map V.str)) := upd_same
      split <;> rename_i h1 <;> simp only [decide_eq_true_eq] at h1 <;> refine rin LE (.inr (T.q_LINE_ENDS _)) ⟨_, rfl, ?_⟩ <;> (
        by_cases hLE : v ∈ LE
        · rw [if_pos (decide_eq_true hLE)]
          rw [show wfin ps d v = ⟨ps ++ [v] ++ [NL], if v = OB then d + 1 else d, EM⟩ from if_pos hLE] at k
          refine ⟨.inl ⟨rfl, _, SqL.of us⟩, _, us, lz, ?_⟩
          rw [el2, upd_upd]
          first | rw [if_pos h1] at k | rw [if_neg h1] at k
          exact k
        · rw [if_neg (by rw [decide_eq_true_eq]; exact hLE)]
          rw [show wfin ps d v = ⟨ps ++ [v], if v = OB then d + 1 else d, v⟩ from if_neg hLE] at k
          first | rw [if_pos h1] at k | rw [if_neg h1] at k
          exact k)
    have ⟨R1, hR1, kR1⟩ : ∃ R, PSs (cxOf CX0 P w K mg base ["signs", "pieces", "depth", "last", "sign", "value"] "write_signs" (defScope s_write_signs) A.f_write_signs cdv A' outer s H E).nox ((forBody ((defBody s_write_signs).getD 3 (.Pass ⟨0, 0, 0, 0⟩))).drop 2) R ∧
        ∀ (D : Ends) (H1 : Hp) (pl : Addr) (S : WSt) (v : Str) (sg : Option V), H1 pl = some (.lst (S.ps.map V.str)) → S.ps.length ≤ 300 → S.depth ≤ 60 →
          D.nx [some (V.ref l), some (V.ref pl), some (V.int ((wstep S v).depth : Int)), some (V.str (wstep S v).last), sg, some (V.str v)] (upd H1 pl (.lst ((wstep S v).ps.map V.str))) →
          R D [some (V.ref l), some (V.ref pl), some (V.int (wd1 v S.depth : Int)), some (V.str S.last), sg, some (V.str v)] H1 := by
      refine ⟨_, (pss_cons (ps_if (pt_cmpR op_eq (pv 3) pe_str (nomark _)) 
      (pss_one (ps_expr (pe_bm PySem.F.plainAttrs_list PySem.F.slot_list_append PySem.F.type_list_append mt_append (pv 1) (pa_cons (pe_op op_repS pe_str (pv 2)) pa_nil)))) 
      (pss_one (ps_if (PW.pt (pw_and (pt_cmpR op_notIn_seq (pv 3) (pe_glob (v := .ref A.t_NO_SPACE_BEHIND) rfl T.g_NO_SPACE_BEHIND rfl) (by rfl)) (pw_and1 (pt_cmpR op_notIn_seq (pv 5) (pe_glob (v := .ref A.t_NO_SPACE_AHEAD) rfl T.g_NO_SPACE_AHEAD rfl) (by rfl))))) 
        (pss_one (ps_expr (pe_bm PySem.F.plainAttrs_list PySem.F.slot_list_append PySem.F.type_list_append mt_append (pv 1) (pa_cons pe_str pa_nil)))) pss_nil))) hR2), fun D H1 pl S v sg e hps hd k => ?_⟩
      walk_at "wp"
      have lz : (S.ps.map V.str).length < sizeLine := small1000 (by rw [List.length_map]; omega)
      have hd1 : wd1 v S.depth ≤ 60 := by unfold wd1; split <;> omega
      have finA : ∀ x : Str, wps S v = S.ps ++ [x] → R2 D [some (V.ref l), some (V.ref pl), some (V.int (wd1 v S.depth : Int)), some (V.str S.last), sg, some (V.str v)] (upd H1 pl (.lst (S.ps.map V.str ++ [V.str x]))) := fun x ex => by
        refine kR2 D _ pl (S.ps ++ [x]) _ _ _ _ (by rw [upd_same, List.map_append]; rfl) (by simp; omega) ?_
        rw [upd_upd, ← ex]
        exact k
      have finB : wps S v = S.ps → R2 D [some (V.ref l), some (V.ref pl), some (V.int (wd1 v S.depth : Int)), some (V.str S.last), sg, some (V.str v)] H1 := fun ex => by
        refine kR2 D _ pl S.ps _ _ _ _ e (by omega) ?_
        rw [← ex]
        exact k
      have ty : tyV K "list" (V.ref pl) H1 := .inl ⟨rfl, _, SqL.of e⟩
      by_cases h1 : S.last = EM
      · rw [if_pos (decide_eq_true h1)]
        refine ⟨ty, _, rfl, by decide +kernel, by omega, _, e, lz, finA _ ?_⟩
        unfold wps
        rw [if_pos h1]
      · rw [if_neg (by rw [decide_eq_true_eq]; exact h1)]
        refine rnin NB (.inr (T.q_NO_SPACE_BEHIND _)) ⟨_, rfl, ?_⟩
        by_cases h2 : S.last ∈ NB
        · rw [if_neg (by simp [h2])]
          refine finB ?_
          unfold wps
          rw [if_neg h1, if_neg (fun h => h.1 h2)]
        · rw [if_pos (by simp [h2])]
          refine rnin NA (.inr (T.q_NO_SPACE_AHEAD _)) ⟨_, rfl, ?_⟩
          by_cases h3 : v ∈ NA
          · rw [if_neg (by simp [h3])]
            refine finB ?_
            unfold wps
            rw [if_neg h1, if_neg (fun h => h.2 h3)]
          · rw [if_pos (by simp [h3])]
            refine ⟨ty, _, e, lz, finA _ ?_⟩
            unfold wps
            rw [if_neg h1, if_pos ⟨h2, h3⟩]
    have ⟨R0, hR0, kR0⟩ : ∃ R, PSs (cxOf CX0 P w K mg base ["signs", "pieces", "depth", "last", "sign", "value"] "write_signs" (defScope s_write_signs) A.f_write_signs cdv A' outer s H E).nox (forBody ((defBody s_write_signs).getD 3 (.Pass ⟨0, 0, 0, 0⟩))) R ∧
        ∀ (D : Ends) (H1 : Hp) (pl : Addr) (S : WSt) (r : Pr) (o5 : Option V), PrOk K H1 r → H1 pl = some (.lst (S.ps.map V.str)) → S.ps.length ≤ 300 → S.depth ≤ 60 →
          D.nx [some (V.ref l), some (V.ref pl), some (V.int ((wstep S r.z).depth : Int)), some (V.str (wstep S r.z).last), some (V.ref r.t), some (V.str r.z)] (upd H1 pl (.lst ((wstep S r.z).ps.map V.str))) →
          R D [some (V.ref l), some (V.ref pl), some (V.int (S.depth : Int)), some (V.str S.last), some (V.ref r.t), o5] H1 := by
      refine ⟨_, (pss_cons (ps_set (i := 5) sc_write_signs.nd rfl (Or.inl rfl) (pe_callTy call_str_any (by rfl) T.b_str (by decide +kernel) (pa_cons (pe_ix ix_tup (pv 4) pe_int (fun _ _ => rfl)) pa_nil))) 
    (pss_cons (ps_if (pt_cmpR op_eq (pv 5) pe_str (nomark _)) 
      (pss_one (ps_set (i := 2) sc_write_signs.nd rfl (Or.inl rfl) (pe_callB (call_max2 rfl) (by rfl) T.b_max (by decide +kernel) (pa_cons pe_int (pa_cons (pe_op op_sub (pv 2) pe_int) pa_nil))))) pss_nil) hR1)), fun D H1 pl S r o5 ok e hps hd k => ?_⟩
      walk_at "wp"
      refine ⟨_, ok.at_, _, rfl, ?_⟩
      have key : (if decide (r.z = Str.ofString "}") = true then R1 D [some (V.ref l), some (V.ref pl), some (V.int (if (S.depth : Int) - 1 > 0 then (S.depth : Int) - 1 else 0)), some (V.str S.last), some (V.ref r.t), some (V.str r.z)] H1
          else R1 D [some (V.ref l), some (V.ref pl), some (V.int (S.depth : Int)), some (V.str S.last), some (V.ref r.t), some (V.str r.z)] H1) := by
        have k1 := kR1 D H1 pl S r.z (some (V.ref r.t)) e hps hd k
        by_cases h1 : r.z = CB
        · rw [if_pos (decide_eq_true h1)]
          rw [show (wd1 r.z S.depth : Int) = (if (S.depth : Int) - 1 > 0 then (S.depth : Int) - 1 else 0) by unfold wd1; rw [if_pos h1]; split <;> omega] at k1
          exact k1
        · rw [if_neg (by rw [decide_eq_true_eq]; exact h1)]
          rw [show wd1 r.z S.depth = S.depth by unfold wd1; rw [if_neg h1]] at k1
          exact k1
      have tk := ok.tok
      clear k
      generalize r.z = zz at tk key
      generalize r.v = vv at tk ⊢
      cases tk with
      | str _ _ => exact .inr ⟨_, rfl, key⟩
      | int n h => exact .inl ⟨_, rfl, Nat.lt_of_le_of_lt (log2_le_of (a := 34) (by rw [Int.natAbs_natCast]; exact Nat.lt_trans h (by decide))) (by decide), key⟩
    refine ⟨_, (pss_cons (ps_set (i := 1) sc_write_signs.nd rfl (Or.inl rfl) (pe_lst pa_nil)) (pss_cons (ps_set (i := 2) sc_write_signs.nd rfl (Or.inl rfl) pe_int) (pss_cons (ps_set (i := 3) sc_write_signs.nd rfl (Or.inl rfl) pe_str)
      (pss_cons (ps_for PassesOwn.never rfl (pi_list (pv 0)) (pg_name (i := 4) sc_write_signs.nd rfl (Or.inl rfl)) hR0) (pss_cons (ps_if (pt_cmpR op_ne (pv 3) pe_str (nomark _)) 
      (pss_one (ps_expr (pe_bm PySem.F.plainAttrs_list PySem.F.slot_list_append PySem.F.type_list_append mt_append (pv 1) (pa_cons pe_str pa_nil)))) pss_nil) 
    (pss_one (ps_ret (pe_join pe_str (pv 1))))))))), ?_⟩
    walk_at "wp"
    refine ⟨Nat.zero_le _, fun pl np => ⟨⟨_, (same_upd np).seq hL⟩, ?_⟩⟩
    have hzl : (rs.map Pr.z).length ≤ 60 := by rw [List.length_map]; exact hl
    have hzt : ∀ z ∈ rs.map Pr.z, Tok2 z := fun z hz => by
      obtain ⟨r, hr, rfl⟩ := List.mem_map.mp hz
      exact (hR r hr).sz
    obtain ⟨Pv, hPv⟩ : ∃ Pv : Nat → St → Hp → Prop, ∀ i σ H', Pv i σ H' ↔ ∃ (v4 v5 : Option V), Same H H' ∧ H' pl = some (.lst ((wrun ((rs.map Pr.z).take i)).ps.map V.str)) ∧
      σ = [some (V.ref l), some (V.ref pl), some (V.int ((wrun ((rs.map Pr.z).take i)).depth : Int)), some (V.str (wrun ((rs.map Pr.z).take i)).last), v4, v5] := ⟨_, fun _ _ _ => Iff.rfl⟩
    refine loop_it (walk_list (xs := rs.map fun r => V.ref r.t)) Pv ((hPv _ _ _).mpr ⟨none, none, same_upd np, upd_same, rfl⟩) (fun i σ H' _ pw => ?_) ?_ ?_
    · obtain ⟨_, _, s1, _⟩ := (hPv _ _ _).mp pw
      exact s1.seq hL
    · intro i x σ H1 H2 hi pw y
      obtain ⟨v4, v5, s1, ep, rfl⟩ := (hPv _ _ _).mp pw
      obtain ⟨rfl, ex⟩ := yat_at y
      rw [List.length_map] at hi
      rw [List.getElem?_map, List.getElem?_eq_getElem hi] at ex
      cases ex
      have ok := WOk.run _ hzl hzt i (by rw [List.length_map]; omega)
      have hi2 : i < (rs.map Pr.z).length := by rw [List.length_map]; exact hi
      have st := wrun_snoc ((rs.map Pr.z).take i) (rs.map Pr.z)[i]
      rw [← List.take_succ_eq_append_getElem hi2, List.getElem_map] at st
      have b1 := ok.dep
      have b2 := ok.cnt
      walk_at "wp"
      refine kR0 _ _ _ _ _ _ ((hR _ (List.getElem_mem hi)).same s1) ep (by omega) (by omega) ?_
      refine (hPv _ _ _).mpr ⟨some (V.ref rs[i].t), some (V.str rs[i].z), same_upd2 s1 np, ?_, ?_⟩
      · rw [st, upd_same]
      · rw [st]
    · intro σ H1 pw
      obtain ⟨v4, v5, s1, ep, rfl⟩ := (hPv _ _ _).mp pw
      rw [List.length_map] at ep
      rw [List.length_map]
      have ok := WOk.run _ hzl hzt rs.length (by rw [List.length_map]; exact Nat.le_refl _)
      have et : (rs.map Pr.z).take rs.length = rs.map Pr.z := List.take_of_length_le (by rw [List.length_map]; exact Nat.le_refl _)
      rw [et] at ep ok ⊢
      generalize wrun (rs.map Pr.z) = S at *
      have b2 := ok.cnt
      have b3 := ok.len
      have eNL : NL.length = 1 := by decide +kernel
      have e0 : (Str.ofString "").length = 0 := by decide +kernel
      walk_at "wp"
      by_cases h1 : S.last = EM
      · rw [show wOut S = S.ps from if_pos h1] at q
        rw [if_neg (by simp [h1])]
        refine ⟨⟨_, rfl⟩, S.ps, .inl (SqL.of ep), ?_, ?_⟩
        · rw [flat_len, e0]
          omega
        · rw [join_flat _ (by decide +kernel)]
          exact q _ s1
      · rw [show wOut S = S.ps ++ [NL] from if_neg h1] at q
        rw [if_pos (by simp [h1])]
        refine ⟨.inl ⟨rfl, _, SqL.of ep⟩, _, ep, small1000 (by rw [List.length_map]; omega), ⟨_, rfl⟩, S.ps ++ [NL], .inl (SqL.of (by rw [upd_same, List.map_append]; rfl)), ?_, ?_⟩
        · rw [flat_len, e0, flat_snoc, len_app, eNL]
          omega
        · rw [join_flat _ (by decide +kernel)]
          exact q _ (same_upd2 s1 np)
theorem app_empty (x : Str) : x ++ Str.empty = x := ext_tl (by rw [tl_append]; show tl x ++ [] = _; rw [List.append_nil])
theorem empty_app (x : Str) : Str.empty ++ x = x := ext_tl (by rw [tl_append]; rfl)
theorem app_assoc (x y z : Str) : x ++ y ++ z = x ++ (y ++ z) := Str.append_assoc x y z
theorem tok_ne {v : Str} (h : Tok2 v) : v ≠ EM := fun e => by
  have h1 := h.1
  rw [e, show EM.length = 0 by decide +kernel] at h1
  omega
theorem ob_cb : OB ≠ CB := by decide +kernel
theorem depth_eq (v : Str) (d : Nat) : (if v = OB then wd1 v d + 1 else wd1 v d) = d2of v d := by
  unfold d2of wd1
  by_cases h1 : v = CB
  · have h2 : v ≠ OB := fun e => ob_cb (e.symm.trans h1)
    rw [if_neg h2, if_pos h1, if_pos h1, if_neg h2]
  · rw [if_neg h1, if_neg h1]
theorem put1_app (x y last v : Str) : put1 (x ++ y) last v = x ++ put1 y last v := by
  unfold put1
  split
  · rw [app_assoc]
  · rw [app_assoc, app_assoc, app_assoc]
structure Rel (S : NSt) (W : WSt) : Prop where
  dep : W.depth = S.depth
  txt : flat W.ps = S.text ++ lineB S.row S.begin_
  r0 : S.row = [] → W.last = EM ∧ S.begin_ = S.depth
  r1 : ∀ u r, S.row = u :: r → W.last = (u :: r).getLast (List.cons_ne_nil _ _) ∧ W.last ≠ EM
theorem Rel.step {S : NSt} {W : WSt} {v : Str} (x : Rel S W) (hv : Tok2 v) : Rel (nstep S v) (wstep W v) := by
  have hd : (if v = OB then wd1 v W.depth + 1 else wd1 v W.depth) = d2of v S.depth := by rw [x.dep]; exact depth_eq v _
  have key : flat (wps W v ++ [v]) = S.text ++ lineB (S.row ++ [v]) S.begin_ := by
    rw [flat_snoc]
    cases hr : S.row with
    | nil =>
      obtain ⟨e1, e2⟩ := x.r0 hr
      have ht := x.txt
      rw [hr] at ht
      have ht2 : flat W.ps = S.text := ht.trans (app_empty _)
      unfold wps
      rw [if_pos e1, flat_snoc, ht2, x.dep, app_assoc]
      show S.text ++ (rep SP (wd1 v S.depth) ++ v) = S.text ++ (rep SP (if v = CB then S.begin_ - 1 else S.begin_) ++ v)
      rw [e2]
      rfl
    | cons u r =>
      obtain ⟨e1, e2⟩ := x.r1 u r hr
      have ht := x.txt
      rw [hr] at ht
      have el : lineB ((u :: r) ++ [v]) S.begin_ = put1 (lineB (u :: r) S.begin_) W.last v := by
        rw [e1]
        exact lineGo_snoc r _ u v
      rw [el, ← put1_app, ← ht]
      unfold wps put1
      rw [if_neg e2]
      by_cases hb : W.last ∈ NB ∨ v ∈ NA
      · rw [if_neg (fun h => hb.elim h.1 h.2), if_pos hb]
      · rw [if_pos ⟨fun h => hb (.inl h), fun h => hb (.inr h)⟩, if_neg hb, flat_snoc]
  unfold nstep wstep wfin
  by_cases hLE : v ∈ LE
  · rw [if_pos hLE, if_pos hLE]
    refine ⟨hd, ?_, fun _ => ⟨rfl, rfl⟩, fun u r h => by cases h⟩
    show flat (wps W v ++ [v] ++ [NL]) = (S.text ++ (lineB (S.row ++ [v]) S.begin_ ++ NL)) ++ Str.empty
    rw [app_empty, flat_snoc, key, app_assoc]
  · rw [if_neg hLE, if_neg hLE]
    refine ⟨hd, key, fun h => by simp at h, fun u r h => ⟨?_, tok_ne hv⟩⟩
    have h' : S.row ++ [v] = u :: r := h
    have e : (S.row ++ [v]).getLast (by simp) = v := by simp
    show v = _
    rw [← e]
    congr 1
theorem Rel.run : ∀ (ts : List Str), (∀ z ∈ ts, Tok2 z) → ∀ (S : NSt) (W : WSt), Rel S W → Rel (ts.foldl nstep S) (ts.foldl wstep W)
  | [], _, _, _, x => x
  | v :: ts, h, S, W, x => Rel.run ts (fun z hz => h z (List.mem_cons_of_mem _ hz)) _ _ (x.step (h v List.mem_cons_self))
theorem out_eq (ts : List Str) (h : ∀ z ∈ ts, Tok2 z) : flat (wOut (wrun ts)) = nOut (nrun ts) := by
  have x : Rel (nrun ts) (wrun ts) := Rel.run ts h _ _ ⟨rfl, rfl, fun _ => ⟨rfl, rfl⟩, fun u r h => by cases h⟩
  unfold wOut nOut
  cases hr : (nrun ts).row with
  | nil =>
    have ht := x.txt
    rw [hr] at ht
    rw [if_pos (x.r0 hr).1, if_pos rfl]
    exact ht.trans (app_empty _)
  | cons u r =>
    rw [if_neg (x.r1 u r hr).2, if_neg (List.cons_ne_nil _ _), flat_snoc, x.txt, hr, app_assoc]
theorem tok_num {n : Nat} (h : n < 10000000000) : Tok2 (Str.ofString (toString ((n : Nat) : Int))) := by
  unfold Tok2
  rw [len_tl, tl_num]
  have h1 := numL_len (n := n) (k := 10) (by decide) h
  have h2 := numL_ne n
  have h3 : 0 < (numL n).length := List.length_pos_iff.mpr h2
  omega
theorem word_tok {z : Str} (h : IsWord 6 z) : Tok2 z := by
  obtain ⟨c, r, e, _, _, l⟩ := h
  unfold Tok2
  rw [len_tl, e, List.length_cons]
  omega
theorem wordC_lt {c : Nat} (h : isWordC c = true) : c ≤ 122 := by
  unfold isWordC isLetter isDigit at h
  simp only [Bool.or_eq_true, Bool.and_eq_true, decide_eq_true_eq, beq_iff_eq] at h
  omega
theorem word_ok {z : Str} (h : IsWord 6 z) : PyData.strOk z = true := by
  obtain ⟨c, r, e, h1, h2, _⟩ := h
  unfold PyData.strOk
  rw [← Array.all_toList, List.all_eq_true]
  intro x hx
  have hx' : x ∈ tl z := hx
  rw [e] at hx'
  refine decide_eq_true ?_
  rcases List.mem_cons.mp hx' with hh | hh
  · have h3 : isWordC c = true := by unfold isWordC; rw [h1]; rfl
    have := wordC_lt h3
    omega
  · have := wordC_lt (h2 x hh)
    omega
theorem ok_law_pair (T : Txt K mg A) : FnOk P w K mg base CX0 3 A.f_law_pair A.d_law_pair ["stream"] (sp_law_pair K) := by
  have G_law_next := ok_law_next (P := P) (w := w) (base := base) T
  have G_law_word := ok_law_word (P := P) (w := w) (base := base) T
  refine T.F_law_pair.ok sc_law_pair (fun vs H Q E h => ?_) (fun cdv A' outer s H vs Q E hr h => ?_)
  · obtain ⟨st, d, p, rfl, _⟩ := h
    rfl
  · obtain ⟨st, d, p, rfl, hM, q⟩ := h
    refine ⟨_, (pss_cons (ps_set (i := 1) sc_law_pair.nd rfl (Or.inl rfl) (pe_call G_law_next (hr.mono (by decide)) (by rfl) T.g_law_next T.F_law_next.kp T.B_law_next .nil pass0 (pa_cons (pv 0) (pa_cons pe_int pa_nil)))) 
    (pss_cons (ps_if (pt_cmpR op_eq (pv 1) pe_int (nomark _)) 
      (pss_one (ps_ret (pe_tup (pa_cons pe_str (pa_cons (pe_op op_mul (pe_call G_law_next (hr.mono (by decide)) (by rfl) T.g_law_next T.F_law_next.kp T.B_law_next .nil pass0 (pa_cons (pv 0) (pa_cons pe_int pa_nil))) (pe_ix ix_list (pe_lst (pa_cons pe_int (pa_cons pe_int (pa_cons pe_int pa_nil)))) (pe_call G_law_next (hr.mono (by decide)) (by rfl) T.g_law_next T.F_law_next.kp T.B_law_next .nil pass0 (pa_cons (pv 0) (pa_cons pe_int pa_nil))) (fun _ _ => rfl))) pa_nil))))) pss_nil) 
    (pss_cons (ps_if (pt_cmpR op_eq (pv 1) pe_int (nomark _)) 
      (pss_one (ps_ret (pe_tup (pa_cons pe_str (pa_cons (pe_call G_law_word hr (by rfl) T.g_law_word T.F_law_word.kp T.B_law_word .nil pass0 (pa_cons (pv 0) (pa_cons (pe_call G_law_next (hr.mono (by decide)) (by rfl) T.g_law_next T.F_law_next.kp T.B_law_next .nil pass0 (pa_cons (pv 0) (pa_cons pe_int pa_nil))) pa_nil))) pa_nil))))) pss_nil) 
    (pss_cons (ps_if (pt_cmpR op_eq (pv 1) pe_int (nomark _)) 
      (pss_one (ps_ret (pe_tup (pa_cons pe_str (pa_cons (pe_ix ix_list (pe_lst (pa_cons pe_str (pa_cons pe_str (pa_cons pe_str (pa_cons pe_str pa_nil))))) (pe_call G_law_next (hr.mono (by decide)) (by rfl) T.g_law_next T.F_law_next.kp T.B_law_next .nil pass0 (pa_cons (pv 0) (pa_cons pe_int pa_nil))) (fun _ _ => rfl)) pa_nil))))) pss_nil) 
    (pss_cons (ps_set (i := 2) sc_law_pair.nd rfl (Or.inl rfl) (pe_lst (pa_cons pe_str (pa_cons pe_str (pa_cons pe_str (pa_cons pe_str (pa_cons pe_str (pa_cons pe_str (pa_cons pe_str (pa_cons pe_str (pa_cons pe_str (pa_cons pe_str (pa_cons pe_str (pa_cons pe_str (pa_cons pe_str (pa_cons pe_str (pa_cons pe_str (pa_cons pe_str (pa_cons pe_str (pa_cons pe_str (pa_cons pe_str pa_nil))))))))))))))))))))) 
    (pss_one (ps_ret (pe_tup (pa_cons pe_str (pa_cons (pe_ix ix_list (pv 2) (pe_op op_mod (pe_call G_law_next (hr.mono (by decide)) (by rfl) T.g_law_next T.F_law_next.kp T.B_law_next .nil pass0 (pa_cons (pv 0) (pa_cons pe_int pa_nil))) pe_int) (fun _ _ => rfl)) pa_nil)))))))))), ?_⟩
    walk_at "wp"
    have fin : ∀ (H1 : Hp) (k : Str) (v : V) (z : Str), PyData.strOk k = true → Stp p H H1 → TokOf v z → Tok2 z → 2 ≤ sizeLine ∧ ∀ t, H1 t = none → Q (.ref t) (upd H1 t (.tup [.str k, v])) := fun H1 k v z hk s1 h1 h2 => ⟨by decide, fun t nt => q _ t k v z (s1.same (same_upd nt)) upd_same h1 h2 hk⟩
    refine ⟨st, d, p, 5, rfl, hM, by decide, fun H1 v s1 v0 v1 => ?_⟩
    have M1 := hM.step s1
    walk_at "wp"
    by_cases k0 : v = 0
    · rw [if_pos (decide_eq_true k0)]
      refine ⟨st, d, p, 60, rfl, M1, by decide, fun H2 u s2 u0 u1 => ⟨by decide, fun a na => ?_⟩⟩
      have s2a := s2.same (same_upd (o := .lst [V.int 1, V.int 7, V.int 16949151]) na)
      refine ⟨st, d, p, 3, rfl, M1.step s2a, by decide, fun H3 w s3 w0 w1 => ?_⟩
      have nap : a ≠ p := s2.ne na
      obtain ⟨x, ex, hx⟩ := atI_in (xs := [V.int 1, V.int 7, V.int 16949151]) w0 (by simpa using w1)
      obtain ⟨n, rfl⟩ : ∃ n : Nat, u = (n : Int) := ⟨u.toNat, by omega⟩
      have e3 : H3 a = some (.lst [V.int 1, V.int 7, V.int 16949151]) := s3.keep _ _ nap upd_same
      have s13 := (s1.trans s2a).trans s3
      refine ⟨_, w, rfl, SqL.of e3, x, ex, _, rfl, ?_⟩
      have one : ∀ m : Nat, x = V.int (m : Int) → m ≤ 16949151 → ∃ y, x = V.int y ∧ CMul (n : Int) y ∧ 2 ≤ sizeLine ∧ ∀ t, H3 t = none → Q (.ref t) (upd H3 t (.tup [V.str (Str.ofString "number"), V.int ((n : Int) * y)])) := fun m em hm => by
        have hb : n * m < 10000000000 := by
          have h1 : n * m ≤ 60 * 16949151 := Nat.mul_le_mul (by omega) hm
          omega
        refine ⟨m, em, .inl ⟨by omega, by omega⟩, ?_⟩
        rw [← Int.natCast_mul]
        exact fin _ _ _ _ (by decide +kernel) s13 (.int _ hb) (tok_num hb)
      rcases List.mem_cons.mp hx with h | h
      · exact one 1 h (by decide)
      · rcases List.mem_cons.mp h with h | h
        · exact one 7 h (by decide)
        · exact one 16949151 (List.mem_singleton.mp h) (by decide)
    · rw [if_neg (by rw [decide_eq_true_eq]; exact k0)]
      by_cases k1 : v = 1
      · rw [if_pos (decide_eq_true k1)]
        refine ⟨st, d, p, 10, rfl, M1, by decide, fun H2 u s2 u0 u1 => ?_⟩
        refine ⟨st, d, p, u, rfl, M1.step s2, u0, u1, fun H3 z s3 hz => ?_⟩
        exact fin _ _ _ _ (by decide +kernel) ((s1.trans s2).trans s3) (.str z (word_ok hz)) (word_tok hz)
      · rw [if_neg (by rw [decide_eq_true_eq]; exact k1)]
        have sym : ∀ (zs : List Str) (H3 : Hp) (i : Int), Stp p H H3 → (∀ z ∈ zs, PyData.strOk z = true ∧ 1 ≤ z.length ∧ z.length ≤ 20) → 0 ≤ i → i < zs.length → ∃ x, atI (zs.map V.str) i = some x ∧ 2 ≤ sizeLine ∧ ∀ t, H3 t = none → Q (.ref t) (upd H3 t (.tup [V.str (Str.ofString "symbol"), x])) := fun zs H3 i s3 hz i0 i1 => by
          obtain ⟨x, ex, hx⟩ := atI_in (xs := zs.map V.str) i0 (by rw [List.length_map]; exact i1)
          obtain ⟨z, h1, rfl⟩ := List.mem_map.mp hx
          exact ⟨_, ex, fin _ _ _ _ (by decide +kernel) s3 (.str z (hz z h1).1) (hz z h1).2⟩
        by_cases k2 : v = 2
        · rw [if_pos (decide_eq_true k2)]
          refine ⟨by decide, fun a na => ?_⟩
          have s1a := s1.same (same_upd (o := .lst [V.str (Str.ofString "{"), V.str (Str.ofString "}"), V.str (Str.ofString ";"), V.str (Str.ofString "||")]) na)
          refine ⟨st, d, p, 4, rfl, hM.step s1a, by decide, fun H3 w s3 w0 w1 => ?_⟩
          have e3 := s3.keep _ _ (s1.ne na) upd_same
          refine ⟨_, w, rfl, SqL.of e3, ?_⟩
          exact sym ["{", "}", ";", "||"] H3 w (s1a.trans s3) (by decide +kernel) w0 (by simpa using w1)
        · rw [if_neg (by rw [decide_eq_true_eq]; exact k2)]
          refine ⟨by decide, fun a na => ?_⟩
          have s1a := s1.same (same_upd (o := .lst [V.str (Str.ofString "<="), V.str (Str.ofString ">="), V.str (Str.ofString "=="), V.str (Str.ofString "||"), V.str (Str.ofString ","), V.str (Str.ofString ";"), V.str (Str.ofString ":"), V.str (Str.ofString "["), V.str (Str.ofString "]"), V.str (Str.ofString "("), V.str (Str.ofString ")"), V.str (Str.ofString "{"), V.str (Str.ofString "}"), V.str (Str.ofString "="), V.str (Str.ofString "+"), V.str (Str.ofString "-"), V.str (Str.ofString "*"), V.str (Str.ofString "<"), V.str (Str.ofString ">")]) na)
          refine ⟨st, d, p, 60, rfl, hM.step s1a, by decide, fun H3 w s3 w0 w1 => ?_⟩
          have e3 := s3.keep _ _ (s1.ne na) upd_same
          have i0 := Int.emod_nonneg w (show (19 : Int) ≠ 0 by decide)
          have i1 := Int.emod_lt_of_pos w (show (0 : Int) < 19 by decide)
          refine ⟨w, rfl, by decide, _, SqL.of e3, ?_⟩
          exact sym ["<=", ">=", "==", "||", ",", ";", ":", "[", "]", "(", ")", "{", "}", "=", "+", "-", "*", "<", ">"] H3 (w % 19) (s1a.trans s3) (by decide +kernel) i0 i1

theorem PrOk.step {K : PySem.W.Frag} {H H' : Hp} {p : Addr} {r : Pr} {i : Int} (x : PrOk K H r) (hp : H p = some (.lst [.int i])) (s : Stp p H H') : PrOk K H' r := ⟨s.sqT hp x.at_, x.tok, x.sz, x.ks⟩
theorem PrOk.updL {K : PySem.W.Frag} {H : Hp} {l : Addr} {r : Pr} {xs : List V} {o : HO} (x : PrOk K H r) (h : H l = some (.lst xs)) : PrOk K (upd H l o) r := ⟨sqT_upd h x.at_, x.tok, x.sz, x.ks⟩
theorem pr_data {K : PySem.W.Frag} {H : Hp} {r : Pr} (x : PrOk K H r) : ∃ e : PyData, Dp K H (.ref r.t) e ∧ e.canLay0 = true ∧ e.depth ≤ 1 := by
  have h := x.at_
  have tk := x.tok
  generalize r.z = zz at tk
  generalize r.v = vv at tk h
  cases tk with
  | str _ hz => exact ⟨.tuple [.str r.k, .str zz], .tup h (.cons (.str _) (.cons (.str _) .nil)), by simp [PyData.canLay0, PyData.canLayAll0, x.ks, hz], by simp [PyData.depth, PyData.depthAll]⟩
  | int n hn => exact ⟨.tuple [.str r.k, .int (n : Int)], .tup h (.cons (.str _) (.cons (.int _) .nil)), by simp [PyData.canLay0, PyData.canLayAll0, x.ks], by simp [PyData.depth, PyData.depthAll]⟩
theorem prs_data {K : PySem.W.Frag} {H : Hp} : ∀ rs : List Pr, (∀ r ∈ rs, PrOk K H r) → ∃ ds : List PyData, DpAll K H (rs.map fun r => V.ref r.t) ds ∧ PyData.canLayAll0 ds = true ∧ PyData.depthAll ds ≤ 1
  | [], _ => ⟨[], .nil, rfl, Nat.zero_le _⟩
  | r :: rs, h => by
    obtain ⟨e, h1, h2, h3⟩ := pr_data (h r List.mem_cons_self)
    obtain ⟨ds, k1, k2, k3⟩ := prs_data rs fun x hx => h x (List.mem_cons_of_mem _ hx)
    refine ⟨e :: ds, .cons h1 k1, ?_, ?_⟩
    · rw [PyData.canLayAll0, h2, k2]
      rfl
    · rw [PyData.depthAll]
      omega
def sp_law (K : PySem.W.Frag) : Sp := fun vs H Q _ => ∃ (a : Addr) (ns : List Int), vs = [.ref a] ∧ SqL K H a (ns.map V.int) ∧ ∀ H', Q (.bl true) H'
theorem sp_law_of {K : PySem.W.Frag} {H : Hp} {a : Addr} {ns : List Int} (_ : ns.length ≤ 63) (hb : ∀ z ∈ ns, Builtin.Int.intBits z ≤ 1048576) (_ : Only H) (hS : SqL K H a (ns.map V.int)) : sp_law K [.ref a] H (fun v _ => v = .bl true) fun _ _ _ => False :=
  ⟨a, ns, rfl, hS, fun _ => rfl⟩
theorem ok_law (T : Txt K mg A) : FnOk P w K mg base CX0 4 A.f_law A.d_law ["script"] (sp_law K) := by
  have G_law_stream := ok_law_stream (P := P) (w := w) (base := base) T
  have G_law_normal := ok_law_normal (P := P) (w := w) (base := base) T
  have G_write_signs := ok_write_signs (P := P) (w := w) (base := base) T
  have G_law_pair := ok_law_pair (P := P) (w := w) (base := base) T
  have G_law_same := ok_law_same (P := P) (w := w) (base := base) T
  have G_law_next := ok_law_next (P := P) (w := w) (base := base) T
  refine T.F_law.ok sc_law (fun vs H Q E h => ?_) (fun cdv A' outer s H vs Q E hr h => ?_)
  · obtain ⟨a, ns, rfl, _⟩ := h
    rfl
  · obtain ⟨a, ns, rfl, hS, q⟩ := h
    refine ⟨_, (pss_cons (ps_set (i := 1) sc_law.nd rfl (Or.inr rfl) (pe_call G_law_stream (hr.mono (by decide)) (by rfl) T.g_law_stream T.F_law_stream.kp T.B_law_stream .nil pass0 (pa_cons (pv 0) (pa_cons pe_int (pa_cons pe_int pa_nil))))) 
    (pss_cons (ps_setLc (i := 2) (own := [("k", 3)]) (by rfl) sc_law.nd rfl rfl (sw_true rfl rfl rfl (by decide +kernel)) (pi_range1 (by rfl) T.b_range (pa_cons (pe_call G_law_next (hr.mono (by decide)) (by rfl) T.g_law_next T.F_law_next.kp T.B_law_next .nil pass0 (pa_cons (pv 1) (pa_cons pe_int pa_nil))) pa_nil)) (blkOk_by (own := [("k", 3)]) (N := ["script", "stream", "pairs", "k", "expected", "pair", "passed", "actual"]) (sc := defScope s_law) (by decide +kernel)) (fun _ _ _ _ _ => (pg_name (i := 3) sc_law.nd rfl (Or.inl rfl) (Or.inr rfl))) (fun _ _ _ _ _ => pts_nil) (fun _ _ _ _ _ => (pe_call G_law_pair hr (by rfl) T.g_law_pair T.F_law_pair.kp T.B_law_pair .nil pass0 (pa_cons (pv 1) pa_nil)))) 
    (pss_cons (ps_set (i := 4) sc_law.nd rfl (Or.inl rfl) (pe_call G_law_normal (hr.mono (by decide)) (by rfl) T.g_law_normal T.F_law_normal.kp T.B_law_normal .nil pass0 (pa_cons (pe_lc (own := [("pair", 5)]) (by rfl) sc_law.nd (pi_list (pv 2)) (blkOk_by (own := [("pair", 5)]) (N := ["script", "stream", "pairs", "k", "expected", "pair", "passed", "actual"]) (sc := defScope s_law) (by decide +kernel)) (fun _ _ _ _ _ => (pg_name (i := 5) sc_law.nd rfl (Or.inl rfl) (Or.inr rfl))) (fun _ _ _ _ _ => pts_nil) (fun _ _ _ _ _ => (pe_callTy call_str_any (by rfl) T.b_str (by decide +kernel) (pa_cons (pe_ix (r := rIxT K) ix_tup (pv 5) pe_int (fun _ _ => rfl)) pa_nil)))) pa_nil))) 
    (pss_cons (ps_set (i := 6) sc_law.nd rfl (Or.inl rfl) (pe_callTy call_list_of (by rfl) T.b_list (by decide +kernel) (pa_cons (pv 2) pa_nil))) 
    (pss_cons (ps_set (i := 7) sc_law.nd rfl (Or.inl rfl) (pe_call G_write_signs (hr.mono (by decide)) (by rfl) T.g_write_signs T.F_write_signs.kp T.B_write_signs .nil pass0 (pa_cons (pv 6) pa_nil))) 
    (pss_one (ps_ret (pe_and (pe_call G_law_same (hr.mono (by decide)) (by rfl) T.g_law_same T.F_law_same.kp T.B_law_same .nil pass0 (pa_cons (pv 7) (pa_cons (pv 4) pa_nil))) (pe_one (pe_cmpR (op_eqD hr.units) (pv 6) (pv 2) (nomark _))))))))))), ?_⟩
    walk_at "wp"
    refine ⟨a, ns, 0, 30, rfl, hS, by decide, by decide, fun H1 st d p s1 hM np => ?_⟩
    refine ⟨st, d, p, 60, rfl, hM, by decide, fun H2 v s2 v0 v1 => ?_⟩
    obtain ⟨n, rfl⟩ : ∃ n : Nat, v = (n : Int) := ⟨v.toNat, by omega⟩
    refine ⟨_, rfl, by omega, by omega, fun D hD => ?_⟩
    have nDp := s2.ne hD
    have hD1 : H1 D = none := s2.free hD nDp
    rw [Int.toNat_natCast]
    obtain ⟨Pv, hPv⟩ : ∃ Pv : Nat → Hp → Prop, ∀ i H', Pv i H' ↔ Stp p H1 H' ∧ ∃ rs : List Pr, H' D = some (.lst (rs.map fun r => V.ref r.t)) ∧ rs.length = i ∧ ∀ r ∈ rs, PrOk K H' r := ⟨_, fun _ _ => Iff.rfl⟩
    refine loopc_it (walk_range0 (n := n)) Pv ((hPv _ _).mpr ⟨s2.same (same_upd hD), [], upd_same, rfl, fun _ h => by cases h⟩) (fun _ _ _ _ => trivial) ?_ ?_
    · intro i x H3 H4 hi pw y
      obtain ⟨s3, rs, ez, hl, hok⟩ := (hPv _ _).mp pw
      obtain ⟨rfl, rfl⟩ := y
      walk_at "wp"
      refine ⟨st, d, p, rfl, hM.step s3, fun H5 t k vv z s5 e5 tk sz ks => ?_⟩
      obtain ⟨i3, ep3⟩ := s3.pl
      have ez5 := s5.keep _ _ nDp ez
      refine ⟨_, ez5, small1000 (by rw [List.length_map]; omega), (hPv _ _).mpr ⟨(s3.trans s5).upd hD1 nDp, rs ++ [⟨t, k, vv, z⟩], ?_, ?_, ?_⟩⟩
      · rw [upd_same, List.map_append]
        rfl
      · rw [List.length_append, hl]
        rfl
      · intro r hr
        rcases List.mem_append.mp hr with hr | hr
        · exact ((hok r hr).step ep3 s5).updL ez5
        · rw [List.mem_singleton.mp hr]
          exact PrOk.updL ⟨SqT.of e5, tk, sz, ks⟩ ez5
    · intro H3 pw
      obtain ⟨s3, rs, ez, hl, hok⟩ := (hPv _ _).mp pw
      have hzt : ∀ z ∈ rs.map Pr.z, Tok2 z := fun z hz => by
        obtain ⟨r, hr, rfl⟩ := List.mem_map.mp hz
        exact (hok r hr).sz
      refine ⟨⟨_, SqL.of ez⟩, fun D2 hD2 => ?_⟩
      refine lc_ys (walk_list (xs := rs.map fun r => V.ref r.t)) (rs.map fun r => V.str r.z) hD2 (by rw [List.length_map]; omega) (by rw [List.length_map, List.length_map]) (fun H' s' => s'.seq (SqL.of ez)) yat_same (fun i x y H4 H5 R hi hy s5 yy k => ?_) (fun H4 s4 e4 => ?_)
      · obtain ⟨rfl, ex⟩ := yat_at yy
        rw [List.length_map] at hi
        rw [List.getElem?_map, List.getElem?_eq_getElem hi] at ex hy
        cases ex
        cases hy
        have ok := (hok _ (List.getElem_mem hi)).same s5
        walk_at "wp"
        refine ⟨_, ok.at_, _, rfl, ?_⟩
        have tk := ok.tok
        have k' : R (V.str rs[i].z) H5 := k _ (Same.refl _)
        clear k
        generalize rs[i].z = zz at tk k'
        generalize rs[i].v = vv at tk ⊢
        cases tk with
        | str _ _ => exact .inr ⟨_, rfl, k'⟩
        | int m hm => exact .inl ⟨_, rfl, Nat.lt_of_le_of_lt (log2_le_of (a := 34) (by rw [Int.natAbs_natCast]; exact Nat.lt_trans hm (by decide))) (by decide), k'⟩
      · refine ⟨D2, rs.map Pr.z, rfl, SqL.of (by rw [e4, List.map_map]; rfl), hzt, by rw [List.length_map]; omega, fun H5 s5 => ?_⟩
        have s35 := s4.trans s5
        have eD5 := s35 _ _ ez
        refine ⟨_, .inl (SqL.of eD5), fun l nl => ?_⟩
        have s6 := same_upd (o := .lst (rs.map fun r => V.ref r.t)) nl
        refine ⟨l, rs, rfl, SqL.of upd_same, fun r hr => ((hok r hr).same s35).same s6, by omega, fun H7 s7 => ?_⟩
        refine ⟨nOut (nrun (rs.map Pr.z)), by rw [out_eq _ hzt], ?_⟩
        walk_at "wp"
        obtain ⟨ds, k1, k2, k3⟩ := prs_data rs fun r hr => (((hok r hr).same s35).same s6).same s7
        have sh : SeqAt.shaped (.list ds) = true := by
          unfold SeqAt.shaped
          rw [Bool.and_eq_true]
          refine ⟨by rw [PyData.canLay0]; exact k2, decide_eq_true ?_⟩
          rw [PyData.depth]
          omega
        refine ⟨.list ds, .list ds, .lst (SqL.of (s7 _ _ upd_same)) k1, .lst (SqL.of (s7 _ _ (s6 _ _ eD5))) k1, sh, sh, ?_⟩
        rw [SeqAt.eqv_refl _ (SeqAt.canLay_of_shaped sh)]
        exact q _
theorem all_mk {K : PySem.W.Frag} {h : Heap} {mg : Str → Option Value} {fa : Addr} (X : K.In h) (G : h.Ns mainGlobals mg) (hfa : mg "law" = some (.ref fa))
    {x_write_signs : Addr} {od_write_signs an_write_signs : Option Addr} {sl_write_signs : Array (Option Value)} {oc_write_signs kV_write_signs dc_write_signs pm_write_signs cd_write_signs ct_write_signs : Value}
    {x_law_cell : Addr} {od_law_cell an_law_cell : Option Addr} {sl_law_cell : Array (Option Value)} {oc_law_cell kV_law_cell dc_law_cell pm_law_cell cd_law_cell ct_law_cell : Value}
    {x_law_draws : Addr} {od_law_draws an_law_draws : Option Addr} {sl_law_draws : Array (Option Value)} {oc_law_draws kV_law_draws dc_law_draws pm_law_draws cd_law_draws ct_law_draws : Value}
    {x_law_stream : Addr} {od_law_stream an_law_stream : Option Addr} {sl_law_stream : Array (Option Value)} {oc_law_stream kV_law_stream dc_law_stream pm_law_stream cd_law_stream ct_law_stream : Value}
    {x_law_next : Addr} {od_law_next an_law_next : Option Addr} {sl_law_next : Array (Option Value)} {oc_law_next kV_law_next dc_law_next pm_law_next cd_law_next ct_law_next : Value}
    {x_law_word : Addr} {od_law_word an_law_word : Option Addr} {sl_law_word : Array (Option Value)} {oc_law_word kV_law_word dc_law_word pm_law_word cd_law_word ct_law_word : Value}
    {x_law_line : Addr} {od_law_line an_law_line : Option Addr} {sl_law_line : Array (Option Value)} {oc_law_line kV_law_line dc_law_line pm_law_line cd_law_line ct_law_line : Value}
    {x_law_normal : Addr} {od_law_normal an_law_normal : Option Addr} {sl_law_normal : Array (Option Value)} {oc_law_normal kV_law_normal dc_law_normal pm_law_normal cd_law_normal ct_law_normal : Value}
    {x_law_is_integer : Addr} {od_law_is_integer an_law_is_integer : Option Addr} {sl_law_is_integer : Array (Option Value)} {oc_law_is_integer kV_law_is_integer dc_law_is_integer pm_law_is_integer cd_law_is_integer ct_law_is_integer : Value}
    {x_law_same : Addr} {od_law_same an_law_same : Option Addr} {sl_law_same : Array (Option Value)} {oc_law_same kV_law_same dc_law_same pm_law_same cd_law_same ct_law_same : Value}
    {x_law_pair : Addr} {od_law_pair an_law_pair : Option Addr} {sl_law_pair : Array (Option Value)} {oc_law_pair kV_law_pair dc_law_pair pm_law_pair cd_law_pair ct_law_pair : Value}
    {x_law : Addr} {od_law an_law : Option Addr} {sl_law : Array (Option Value)} {oc_law kV_law dc_law pm_law cd_law ct_law : Value}
    {t_LINE_ENDS : Addr} {dd_LINE_ENDS : Option Addr} {it_LINE_ENDS : Array Value} {nn_LINE_ENDS : Nat} {ss_LINE_ENDS : Array (Option Value)}
    {t_NO_SPACE_AHEAD : Addr} {dd_NO_SPACE_AHEAD : Option Addr} {it_NO_SPACE_AHEAD : Array Value} {nn_NO_SPACE_AHEAD : Nat} {ss_NO_SPACE_AHEAD : Array (Option Value)}
    {t_NO_SPACE_BEHIND : Addr} {dd_NO_SPACE_BEHIND : Option Addr} {it_NO_SPACE_BEHIND : Array Value} {nn_NO_SPACE_BEHIND : Nat} {ss_NO_SPACE_BEHIND : Array (Option Value)}
    (a_write_signs : PySem.W.nsIn K mainGlobals "write_signs" = some (some (.ref x_write_signs))) (l_write_signs : K.lookup x_write_signs = some ⟨oc_write_signs, od_write_signs, .func (PySem.W.fnOf "write_signs" "write_signs" (defArgs s_write_signs) (defBody s_write_signs) (defScope s_write_signs) .none kV_write_signs dc_write_signs pm_write_signs an_write_signs cd_write_signs ct_write_signs), sl_write_signs⟩) (c_write_signs : PySem.W.codeIn K cd_write_signs "write_signs" = true) (k_write_signs : PySem.W.keepIn K (.ref x_write_signs) = true)
    (a_law_cell : PySem.W.nsIn K mainGlobals "_law_cell" = some (some (.ref x_law_cell))) (l_law_cell : K.lookup x_law_cell = some ⟨oc_law_cell, od_law_cell, .func (PySem.W.fnOf "_law_cell" "_law_cell" (defArgs s_law_cell) (defBody s_law_cell) (defScope s_law_cell) .none kV_law_cell dc_law_cell pm_law_cell an_law_cell cd_law_cell ct_law_cell), sl_law_cell⟩) (c_law_cell : PySem.W.codeIn K cd_law_cell "_law_cell" = true) (k_law_cell : PySem.W.keepIn K (.ref x_law_cell) = true)
    (a_law_draws : PySem.W.nsIn K mainGlobals "_law_draws" = some (some (.ref x_law_draws))) (l_law_draws : K.lookup x_law_draws = some ⟨oc_law_draws, od_law_draws, .func (PySem.W.fnOf "_law_draws" "_law_draws" (defArgs s_law_draws) (defBody s_law_draws) (defScope s_law_draws) .none kV_law_draws dc_law_draws pm_law_draws an_law_draws cd_law_draws ct_law_draws), sl_law_draws⟩) (c_law_draws : PySem.W.codeIn K cd_law_draws "_law_draws" = true) (k_law_draws : PySem.W.keepIn K (.ref x_law_draws) = true)
    (a_law_stream : PySem.W.nsIn K mainGlobals "_law_stream" = some (some (.ref x_law_stream))) (l_law_stream : K.lookup x_law_stream = some ⟨oc_law_stream, od_law_stream, .func (PySem.W.fnOf "_law_stream" "_law_stream" (defArgs s_law_stream) (defBody s_law_stream) (defScope s_law_stream) .none kV_law_stream dc_law_stream pm_law_stream an_law_stream cd_law_stream ct_law_stream), sl_law_stream⟩) (c_law_stream : PySem.W.codeIn K cd_law_stream "_law_stream" = true) (k_law_stream : PySem.W.keepIn K (.ref x_law_stream) = true)
    (a_law_next : PySem.W.nsIn K mainGlobals "_law_next" = some (some (.ref x_law_next))) (l_law_next : K.lookup x_law_next = some ⟨oc_law_next, od_law_next, .func (PySem.W.fnOf "_law_next" "_law_next" (defArgs s_law_next) (defBody s_law_next) (defScope s_law_next) .none kV_law_next dc_law_next pm_law_next an_law_next cd_law_next ct_law_next), sl_law_next⟩) (c_law_next : PySem.W.codeIn K cd_law_next "_law_next" = true) (k_law_next : PySem.W.keepIn K (.ref x_law_next) = true)
    (a_law_word : PySem.W.nsIn K mainGlobals "_law_word" = some (some (.ref x_law_word))) (l_law_word : K.lookup x_law_word = some ⟨oc_law_word, od_law_word, .func (PySem.W.fnOf "_law_word" "_law_word" (defArgs s_law_word) (defBody s_law_word) (defScope s_law_word) .none kV_law_word dc_law_word pm_law_word an_law_word cd_law_word ct_law_word), sl_law_word⟩) (c_law_word : PySem.W.codeIn K cd_law_word "_law_word" = true) (k_law_word : PySem.W.keepIn K (.ref x_law_word) = true)
    (a_law_line : PySem.W.nsIn K mainGlobals "_law_line" = some (some (.ref x_law_line))) (l_law_line : K.lookup x_law_line = some ⟨oc_law_line, od_law_line, .func (PySem.W.fnOf "_law_line" "_law_line" (defArgs s_law_line) (defBody s_law_line) (defScope s_law_line) .none kV_law_line dc_law_line pm_law_line an_law_line cd_law_line ct_law_line), sl_law_line⟩) (c_law_line : PySem.W.codeIn K cd_law_line "_law_line" = true) (k_law_line : PySem.W.keepIn K (.ref x_law_line) = true)
    (a_law_normal : PySem.W.nsIn K mainGlobals "_law_normal" = some (some (.ref x_law_normal))) (l_law_normal : K.lookup x_law_normal = some ⟨oc_law_normal, od_law_normal, .func (PySem.W.fnOf "_law_normal" "_law_normal" (defArgs s_law_normal) (defBody s_law_normal) (defScope s_law_normal) .none kV_law_normal dc_law_normal pm_law_normal an_law_normal cd_law_normal ct_law_normal), sl_law_normal⟩) (c_law_normal : PySem.W.codeIn K cd_law_normal "_law_normal" = true) (k_law_normal : PySem.W.keepIn K (.ref x_law_normal) = true)
    (a_law_is_integer : PySem.W.nsIn K mainGlobals "_law_is_integer" = some (some (.ref x_law_is_integer))) (l_law_is_integer : K.lookup x_law_is_integer = some ⟨oc_law_is_integer, od_law_is_integer, .func (PySem.W.fnOf "_law_is_integer" "_law_is_integer" (defArgs s_law_is_integer) (defBody s_law_is_integer) (defScope s_law_is_integer) .none kV_law_is_integer dc_law_is_integer pm_law_is_integer an_law_is_integer cd_law_is_integer ct_law_is_integer), sl_law_is_integer⟩) (c_law_is_integer : PySem.W.codeIn K cd_law_is_integer "_law_is_integer" = true) (k_law_is_integer : PySem.W.keepIn K (.ref x_law_is_integer) = true)
    (a_law_same : PySem.W.nsIn K mainGlobals "_law_same" = some (some (.ref x_law_same))) (l_law_same : K.lookup x_law_same = some ⟨oc_law_same, od_law_same, .func (PySem.W.fnOf "_law_same" "_law_same" (defArgs s_law_same) (defBody s_law_same) (defScope s_law_same) .none kV_law_same dc_law_same pm_law_same an_law_same cd_law_same ct_law_same), sl_law_same⟩) (c_law_same : PySem.W.codeIn K cd_law_same "_law_same" = true) (k_law_same : PySem.W.keepIn K (.ref x_law_same) = true)
    (a_law_pair : PySem.W.nsIn K mainGlobals "_law_pair" = some (some (.ref x_law_pair))) (l_law_pair : K.lookup x_law_pair = some ⟨oc_law_pair, od_law_pair, .func (PySem.W.fnOf "_law_pair" "_law_pair" (defArgs s_law_pair) (defBody s_law_pair) (defScope s_law_pair) .none kV_law_pair dc_law_pair pm_law_pair an_law_pair cd_law_pair ct_law_pair), sl_law_pair⟩) (c_law_pair : PySem.W.codeIn K cd_law_pair "_law_pair" = true) (k_law_pair : PySem.W.keepIn K (.ref x_law_pair) = true)
    (a_law : PySem.W.nsIn K mainGlobals "law" = some (some (.ref x_law))) (l_law : K.lookup x_law = some ⟨oc_law, od_law, .func (PySem.W.fnOf "law" "law" (defArgs s_law) (defBody s_law) (defScope s_law) .none kV_law dc_law pm_law an_law cd_law ct_law), sl_law⟩) (c_law : PySem.W.codeIn K cd_law "law" = true) (k_law : PySem.W.keepIn K (.ref x_law) = true)
    (z_max : PySem.W.nsIn K mainGlobals "max" = some none)
    (z_str : PySem.W.nsIn K mainGlobals "str" = some none)
    (z_len : PySem.W.nsIn K mainGlobals "len" = some none)
    (z_int : PySem.W.nsIn K mainGlobals "int" = some none)
    (z_range : PySem.W.nsIn K mainGlobals "range" = some none)
    (z_abs : PySem.W.nsIn K mainGlobals "abs" = some none)
    (z_isinstance : PySem.W.nsIn K mainGlobals "isinstance" = some none)
    (z_bool : PySem.W.nsIn K mainGlobals "bool" = some none)
    (z_list : PySem.W.nsIn K mainGlobals "list" = some none)
    (m_LINE_ENDS : PySem.W.nsIn K mainGlobals "LINE_ENDS" = some (some (.ref t_LINE_ENDS))) (lk_LINE_ENDS : K.lookup t_LINE_ENDS = some ⟨.type "tuple", dd_LINE_ENDS, .seq it_LINE_ENDS nn_LINE_ENDS, ss_LINE_ENDS⟩) (vv_LINE_ENDS : Vals [.str ";", .str "{", .str "}", .str "||"] it_LINE_ENDS.toList)
    (m_NO_SPACE_AHEAD : PySem.W.nsIn K mainGlobals "NO_SPACE_AHEAD" = some (some (.ref t_NO_SPACE_AHEAD))) (lk_NO_SPACE_AHEAD : K.lookup t_NO_SPACE_AHEAD = some ⟨.type "tuple", dd_NO_SPACE_AHEAD, .seq it_NO_SPACE_AHEAD nn_NO_SPACE_AHEAD, ss_NO_SPACE_AHEAD⟩) (vv_NO_SPACE_AHEAD : Vals [.str ",", .str ";", .str ":", .str "[", .str "]", .str "(", .str ")"] it_NO_SPACE_AHEAD.toList)
    (m_NO_SPACE_BEHIND : PySem.W.nsIn K mainGlobals "NO_SPACE_BEHIND" = some (some (.ref t_NO_SPACE_BEHIND))) (lk_NO_SPACE_BEHIND : K.lookup t_NO_SPACE_BEHIND = some ⟨.type "tuple", dd_NO_SPACE_BEHIND, .seq it_NO_SPACE_BEHIND nn_NO_SPACE_BEHIND, ss_NO_SPACE_BEHIND⟩) (vv_NO_SPACE_BEHIND : Vals [.str "[", .str "("] it_NO_SPACE_BEHIND.toList) :
    ∃ A : Ad, Txt K mg A ∧ A.f_law = fa ∧ (∀ (s : Shared) (v : Value), BindsTo s A.d_law ⟨[v], []⟩ [("script", v)]) := by
  have e := hfa.symm.trans (PySem.W.mg_of X G a_law)
  cases e
  have F_write_signs := fun_mk (st := s_write_signs) l_write_signs c_write_signs k_write_signs
  have B_write_signs := F_write_signs.binds (ps := ["signs"]) fun _ _ _ _ _ _ us hl => match us, hl with | [_], _ => rfl
  have F_law_cell := fun_mk (st := s_law_cell) l_law_cell c_law_cell k_law_cell
  have B_law_cell := F_law_cell.binds (ps := ["script", "k"]) fun _ _ _ _ _ _ us hl => match us, hl with | [_, _], _ => rfl
  have F_law_draws := fun_mk (st := s_law_draws) l_law_draws c_law_draws k_law_draws
  have B_law_draws := F_law_draws.binds (ps := ["cell", "count"]) fun _ _ _ _ _ _ us hl => match us, hl with | [_, _], _ => rfl
  have F_law_stream := fun_mk (st := s_law_stream) l_law_stream c_law_stream k_law_stream
  have B_law_stream := F_law_stream.binds (ps := ["script", "first", "count"]) fun _ _ _ _ _ _ us hl => match us, hl with | [_, _, _], _ => rfl
  have F_law_next := fun_mk (st := s_law_next) l_law_next c_law_next k_law_next
  have B_law_next := F_law_next.binds (ps := ["stream", "many"]) fun _ _ _ _ _ _ us hl => match us, hl with | [_, _], _ => rfl
  have F_law_word := fun_mk (st := s_law_word) l_law_word c_law_word k_law_word
  have B_law_word := F_law_word.binds (ps := ["stream", "index"]) fun _ _ _ _ _ _ us hl => match us, hl with | [_, _], _ => rfl
  have F_law_line := fun_mk (st := s_law_line) l_law_line c_law_line k_law_line
  have B_law_line := F_law_line.binds (ps := ["row", "depth"]) fun _ _ _ _ _ _ us hl => match us, hl with | [_, _], _ => rfl
  have F_law_normal := fun_mk (st := s_law_normal) l_law_normal c_law_normal k_law_normal
  have B_law_normal := F_law_normal.binds (ps := ["tokens"]) fun _ _ _ _ _ _ us hl => match us, hl with | [_], _ => rfl
  have F_law_is_integer := fun_mk (st := s_law_is_integer) l_law_is_integer c_law_is_integer k_law_is_integer
  have B_law_is_integer := F_law_is_integer.binds (ps := ["actual"]) fun _ _ _ _ _ _ us hl => match us, hl with | [_], _ => rfl
  have F_law_same := fun_mk (st := s_law_same) l_law_same c_law_same k_law_same
  have B_law_same := F_law_same.binds (ps := ["actual", "expected"]) fun _ _ _ _ _ _ us hl => match us, hl with | [_, _], _ => rfl
  have F_law_pair := fun_mk (st := s_law_pair) l_law_pair c_law_pair k_law_pair
  have B_law_pair := F_law_pair.binds (ps := ["stream"]) fun _ _ _ _ _ _ us hl => match us, hl with | [_], _ => rfl
  have F_law := fun_mk (st := s_law) l_law c_law k_law
  have B_law := F_law.binds (ps := ["script"]) fun _ _ _ _ _ _ us hl => match us, hl with | [_], _ => rfl
  exact ⟨{ f_write_signs := x_write_signs, f_law_cell := x_law_cell, f_law_draws := x_law_draws, f_law_stream := x_law_stream, f_law_next := x_law_next, f_law_word := x_law_word, f_law_line := x_law_line, f_law_normal := x_law_normal, f_law_is_integer := x_law_is_integer, f_law_same := x_law_same, f_law_pair := x_law_pair, f_law := fa, d_write_signs := PySem.W.fnOf "write_signs" "write_signs" (defArgs s_write_signs) (defBody s_write_signs) (defScope s_write_signs) .none kV_write_signs dc_write_signs pm_write_signs an_write_signs cd_write_signs ct_write_signs, d_law_cell := PySem.W.fnOf "_law_cell" "_law_cell" (defArgs s_law_cell) (defBody s_law_cell) (defScope s_law_cell) .none kV_law_cell dc_law_cell pm_law_cell an_law_cell cd_law_cell ct_law_cell, d_law_draws := PySem.W.fnOf "_law_draws" "_law_draws" (defArgs s_law_draws) (defBody s_law_draws) (defScope s_law_draws) .none kV_law_draws dc_law_draws pm_law_draws an_law_draws cd_law_draws ct_law_draws, d_law_stream := PySem.W.fnOf "_law_stream" "_law_stream" (defArgs s_law_stream) (defBody s_law_stream) (defScope s_law_stream) .none kV_law_stream dc_law_stream pm_law_stream an_law_stream cd_law_stream ct_law_stream, d_law_next := PySem.W.fnOf "_law_next" "_law_next" (defArgs s_law_next) (defBody s_law_next) (defScope s_law_next) .none kV_law_next dc_law_next pm_law_next an_law_next cd_law_next ct_law_next, d_law_word := PySem.W.fnOf "_law_word" "_law_word" (defArgs s_law_word) (defBody s_law_word) (defScope s_law_word) .none kV_law_word dc_law_word pm_law_word an_law_word cd_law_word ct_law_word, d_law_line := PySem.W.fnOf "_law_line" "_law_line" (defArgs s_law_line) (defBody s_law_line) (defScope s_law_line) .none kV_law_line dc_law_line pm_law_line an_law_line cd_law_line ct_law_line, d_law_normal := PySem.W.fnOf "_law_normal" "_law_normal" (defArgs s_law_normal) (defBody s_law_normal) (defScope s_law_normal) .none kV_law_normal dc_law_normal pm_law_normal an_law_normal cd_law_normal ct_law_normal, d_law_is_integer := PySem.W.fnOf "_law_is_integer" "_law_is_integer" (defArgs s_law_is_integer) (defBody s_law_is_integer) (defScope s_law_is_integer) .none kV_law_is_integer dc_law_is_integer pm_law_is_integer an_law_is_integer cd_law_is_integer ct_law_is_integer, d_law_same := PySem.W.fnOf "_law_same" "_law_same" (defArgs s_law_same) (defBody s_law_same) (defScope s_law_same) .none kV_law_same dc_law_same pm_law_same an_law_same cd_law_same ct_law_same, d_law_pair := PySem.W.fnOf "_law_pair" "_law_pair" (defArgs s_law_pair) (defBody s_law_pair) (defScope s_law_pair) .none kV_law_pair dc_law_pair pm_law_pair an_law_pair cd_law_pair ct_law_pair, d_law := PySem.W.fnOf "law" "law" (defArgs s_law) (defBody s_law) (defScope s_law) .none kV_law dc_law pm_law an_law cd_law ct_law, t_LINE_ENDS := t_LINE_ENDS, t_NO_SPACE_AHEAD := t_NO_SPACE_AHEAD, t_NO_SPACE_BEHIND := t_NO_SPACE_BEHIND },
   { b_max := PySem.W.mg_none_of X G z_max, b_str := PySem.W.mg_none_of X G z_str, b_len := PySem.W.mg_none_of X G z_len, b_int := PySem.W.mg_none_of X G z_int, b_range := PySem.W.mg_none_of X G z_range, b_abs := PySem.W.mg_none_of X G z_abs, b_isinstance := PySem.W.mg_none_of X G z_isinstance, b_bool := PySem.W.mg_none_of X G z_bool, b_list := PySem.W.mg_none_of X G z_list, g_write_signs := PySem.W.mg_of X G a_write_signs, F_write_signs := F_write_signs, B_write_signs := B_write_signs, g_law_cell := PySem.W.mg_of X G a_law_cell, F_law_cell := F_law_cell, B_law_cell := B_law_cell, g_law_draws := PySem.W.mg_of X G a_law_draws, F_law_draws := F_law_draws, B_law_draws := B_law_draws, g_law_stream := PySem.W.mg_of X G a_law_stream, F_law_stream := F_law_stream, B_law_stream := B_law_stream, g_law_next := PySem.W.mg_of X G a_law_next, F_law_next := F_law_next, B_law_next := B_law_next, g_law_word := PySem.W.mg_of X G a_law_word, F_law_word := F_law_word, B_law_word := B_law_word, g_law_line := PySem.W.mg_of X G a_law_line, F_law_line := F_law_line, B_law_line := B_law_line, g_law_normal := PySem.W.mg_of X G a_law_normal, F_law_normal := F_law_normal, B_law_normal := B_law_normal, g_law_is_integer := PySem.W.mg_of X G a_law_is_integer, F_law_is_integer := F_law_is_integer, B_law_is_integer := B_law_is_integer, g_law_same := PySem.W.mg_of X G a_law_same, F_law_same := F_law_same, B_law_same := B_law_same, g_law_pair := PySem.W.mg_of X G a_law_pair, F_law_pair := F_law_pair, B_law_pair := B_law_pair, g_law := PySem.W.mg_of X G a_law, F_law := F_law, B_law := B_law, g_LINE_ENDS := PySem.W.mg_of X G m_LINE_ENDS, q_LINE_ENDS := fun H => .inr ⟨_, _, _, lk_LINE_ENDS, rfl, rfl, (by have e := vv_LINE_ENDS.length; simp only [Array.length_toList, List.length_cons, List.length_nil] at e; rw [← e]; decide), vv_LINE_ENDS⟩, g_NO_SPACE_AHEAD := PySem.W.mg_of X G m_NO_SPACE_AHEAD, q_NO_SPACE_AHEAD := fun H => .inr ⟨_, _, _, lk_NO_SPACE_AHEAD, rfl, rfl, (by have e := vv_NO_SPACE_AHEAD.length; simp only [Array.length_toList, List.length_cons, List.length_nil] at e; rw [← e]; decide), vv_NO_SPACE_AHEAD⟩, g_NO_SPACE_BEHIND := PySem.W.mg_of X G m_NO_SPACE_BEHIND, q_NO_SPACE_BEHIND := fun H => .inr ⟨_, _, _, lk_NO_SPACE_BEHIND, rfl, rfl, (by have e := vv_NO_SPACE_BEHIND.length; simp only [Array.length_toList, List.length_cons, List.length_nil] at e; rw [← e]; decide), vv_NO_SPACE_BEHIND⟩ }, rfl, fun s v => .of_eq rfl⟩
end
end K2
open PySem PySem.W PyProof.Rows in
set_option maxRecDepth 100000 in
set_option maxHeartbeats 0 in
theorem PySem.Challenge.cw_loopworks_k02_signs_written_holds : PySem.Challenge.rw_loopworks_k02_signs_written.Holds := by
  w_on; o_law; k_head; (case hw => w_witness2)
  k_fill
  refine L2.walk_ofB (l := PySem.Challenge.rw_loopworks_k02_signs_written) (n := 63) (k := 4) (x := "script") (CX := fun _ => L2.CX0) (sp := fun w => K2.sp_law _) rfl (by decide) rfl ⟨rfl, by decide, by decide⟩ (fun w h Y => PySem.W.kIn_of Y) ?F (fun _ H a ns hl hb hO hS => K2.sp_law_of hl hb hO hS) (fun _ _ _ _ _ h => h)
  case F =>
    intro w mg fa h KX G hmg
    obtain ⟨A, T, e, hb⟩ : ∃ A : K2.Ad, K2.Txt _ mg A ∧ A.f_law = fa ∧ (∀ (s : Shared) (v : Value), BindsTo s A.d_law ⟨[v], []⟩ [("script", v)]) := by
      refine' K2.all_mk KX G hmg ?a_write_signs ?l_write_signs ?c_write_signs ?k_write_signs ?a_law_cell ?l_law_cell ?c_law_cell ?k_law_cell ?a_law_draws ?l_law_draws ?c_law_draws ?k_law_draws ?a_law_stream ?l_law_stream ?c_law_stream ?k_law_stream ?a_law_next ?l_law_next ?c_law_next ?k_law_next ?a_law_word ?l_law_word ?c_law_word ?k_law_word ?a_law_line ?l_law_line ?c_law_line ?k_law_line ?a_law_normal ?l_law_normal ?c_law_normal ?k_law_normal ?a_law_is_integer ?l_law_is_integer ?c_law_is_integer ?k_law_is_integer ?a_law_same ?l_law_same ?c_law_same ?k_law_same ?a_law_pair ?l_law_pair ?c_law_pair ?k_law_pair ?a_law ?l_law ?c_law ?k_law ?z_max ?z_str ?z_len ?z_int ?z_range ?z_abs ?z_isinstance ?z_bool ?z_list ?m_LINE_ENDS ?lk_LINE_ENDS ?vv_LINE_ENDS ?m_NO_SPACE_AHEAD ?lk_NO_SPACE_AHEAD ?vv_NO_SPACE_AHEAD ?m_NO_SPACE_BEHIND ?lk_NO_SPACE_BEHIND ?vv_NO_SPACE_BEHIND
      (case a_write_signs => k_is)
      (case l_write_signs => k_is)
      (case c_write_signs => k_is)
      (case k_write_signs => k_is)
      (case a_law_cell => k_is)
      (case l_law_cell => k_is)
      (case c_law_cell => k_is)
      (case k_law_cell => k_is)
      (case a_law_draws => k_is)
      (case l_law_draws => k_is)
      (case c_law_draws => k_is)
      (case k_law_draws => k_is)
      (case a_law_stream => k_is)
      (case l_law_stream => k_is)
      (case c_law_stream => k_is)
      (case k_law_stream => k_is)
      (case a_law_next => k_is)
      (case l_law_next => k_is)
      (case c_law_next => k_is)
      (case k_law_next => k_is)
      (case a_law_word => k_is)
      (case l_law_word => k_is)
      (case c_law_word => k_is)
      (case k_law_word => k_is)
      (case a_law_line => k_is)
      (case l_law_line => k_is)
      (case c_law_line => k_is)
      (case k_law_line => k_is)
      (case a_law_normal => k_is)
      (case l_law_normal => k_is)
      (case c_law_normal => k_is)
      (case k_law_normal => k_is)
      (case a_law_is_integer => k_is)
      (case l_law_is_integer => k_is)
      (case c_law_is_integer => k_is)
      (case k_law_is_integer => k_is)
      (case a_law_same => k_is)
      (case l_law_same => k_is)
      (case c_law_same => k_is)
      (case k_law_same => k_is)
      (case a_law_pair => k_is)
      (case l_law_pair => k_is)
      (case c_law_pair => k_is)
      (case k_law_pair => k_is)
      (case a_law => k_is)
      (case l_law => k_is)
      (case c_law => k_is)
      (case k_law => k_is)
      (case z_max => k_is)
      (case z_str => k_is)
      (case z_len => k_is)
      (case z_int => k_is)
      (case z_range => k_is)
      (case z_abs => k_is)
      (case z_isinstance => k_is)
      (case z_bool => k_is)
      (case z_list => k_is)
      (case m_LINE_ENDS => k_is)
      (case lk_LINE_ENDS => k_is)
      (case vv_LINE_ENDS => exact (.cons ⟨_, rfl⟩ (.cons ⟨_, rfl⟩ (.cons ⟨_, rfl⟩ (.cons ⟨_, rfl⟩ .nil)))))
      (case m_NO_SPACE_AHEAD => k_is)
      (case lk_NO_SPACE_AHEAD => k_is)
      (case vv_NO_SPACE_AHEAD => exact (.cons ⟨_, rfl⟩ (.cons ⟨_, rfl⟩ (.cons ⟨_, rfl⟩ (.cons ⟨_, rfl⟩ (.cons ⟨_, rfl⟩ (.cons ⟨_, rfl⟩ (.cons ⟨_, rfl⟩ .nil))))))))
      (case m_NO_SPACE_BEHIND => k_is)
      (case lk_NO_SPACE_BEHIND => k_is)
      (case vv_NO_SPACE_BEHIND => exact (.cons ⟨_, rfl⟩ (.cons ⟨_, rfl⟩ .nil)))
    subst e
    exact ⟨A.d_law, hb, fun base _ _ => K2.ok_law T⟩
