import PyProof.Rows.All
import Wide.All
import OpenK.AllK
import Wide.FinOn
import HandS.ForMost
import HandS.Zip
import HandS.Wide
import HandS.TupAny
import HandS.IsInst
import HandS.EndBits
import HandS.Walk
import HandS.More
import HandS.RaiseMore
import HandS.SetIn
import KE.KExcSuper
import HandS.Nested
import HandS.NestedK
import HandS.ExcInit
import HandS.HotCalls
import HandS.ExcIs
import HandS.ExcField
import HandS.FStr
import KE.KExcIs
import PySem.Challenge.RW_loopworks_k01_faults_of_characters
set_option Elab.async false
set_option linter.all false
set_option maxRecDepth 100000
set_option maxHeartbeats 4000000
namespace Bs
open PySem L2

/-! ### loops as one word -/
def Loop (J : It) (g : TG) (tb : TS) (D : Ends) (σ : St) (H1 : Hp) : Prop := ∃ W : Nat → Nat → St → Hp → Prop, (∃ m, W 0 m σ H1) ∧ ∀ i m σ H, W i m σ H →
  (J.stop i H ∧ D.nx σ H) ∨ (J.go i H ∧ ∃ N : St → Hp → Prop, (∀ σ' H', N σ' H' → ∃ m', m' < m ∧ W (i + 1) m' σ' H') ∧ ∀ x H', J.yld i H x H' → g x σ H' fun σ2 H2 => tb { D with nx := N, ct := N, bk := D.nx } σ2 H2)
theorem for_eq (wi : TI) (g : TG) (tb : TS) (D : Ends) (σ : St) (H : Hp) : tFor wi g tb D σ H = wi σ H fun J H1 => Loop J g tb D σ H1 := rfl
def LoopC (J : It) (g : TG) (tt : TT) (te : TE) (vs : List Nat) (σ : St) (H1 : Hp) (D : Addr) (Qd : Hp → Prop) : Prop := ∃ W : Nat → Nat → Hp → Prop, (∃ m, W 0 m (upd H1 D (.lst []))) ∧ ∀ i m H, W i m H →
  (J.stop i H ∧ Qd H) ∨ (J.go i H ∧ ∃ Nx : Hp → Prop, (∀ H', Nx H' → ∃ m', m' < m ∧ W (i + 1) m' H') ∧ ∀ x H', J.yld i H x H' → g x (wipe σ vs) H' fun σ2 H2 => wipe σ2 vs = wipe σ vs ∧ tt σ2 H2 fun b H3 =>
    if b = true then te σ2 H3 fun y H4 => ∃ acc, H4 D = some (.lst acc) ∧ acc.length < sizeLine ∧ Nx (upd H4 D (.lst (acc ++ [y]))) else Nx H3)
theorem lc_eq (wi : TI) (g : TG) (tt : TT) (te : TE) (vs : List Nat) (σ : St) (H : Hp) (Q : VK) : tLc wi g tt te vs σ H Q = wi σ H fun J H1 => ∀ D, H1 D = none → LoopC J g tt te vs σ H1 D (fun H => Q (.ref D) H) := rfl
def LoopW (c : TT) (tb : TS) (D : Ends) (σ : St) (H : Hp) : Prop := tWhile c tb D σ H
theorem while_eq (c : TT) (tb : TS) (D : Ends) (σ : St) (H : Hp) : tWhile c tb D σ H = LoopW c tb D σ H := rfl

theorem test_eq (t : TE) (σ : St) (H : Hp) (Q : Bool → Hp → Prop) : tTest t σ H Q = t σ H fun x H' => ∃ k, x = .bl k ∧ Q k H' := rfl
theorem ex_bl {b : Bool} {Q : Bool → Prop} : (∃ k, V.bl b = .bl k ∧ Q k) = Q b := propext ⟨fun ⟨k, e, q⟩ => by cases e; exact q, fun q => ⟨b, rfl, q⟩⟩
theorem ex_int {i : Int} {Q : Int → Prop} : (∃ k, V.int i = .int k ∧ Q k) = Q i := propext ⟨fun ⟨k, e, q⟩ => by cases e; exact q, fun q => ⟨i, rfl, q⟩⟩

theorem cxK {CX : CXT} {P : Program} {w : World} {K : PySem.W.Frag} {mg : Str → Option Value} {base : Heap} {N : List Str} {qual : Str} {scope : Scope} {f : Addr} {cd : Value} {A : Around} {outer : List Env} {s : Shared} {H : Hp} {E : XK} : (cxOf CX P w K mg base N qual scope f cd A outer s H E).K = K := rfl
/-! ### sizes -/
def Sz (n : Nat) (x : Int) : Prop := x.natAbs < 2 ^ n
theorem Sz.mono {a b : Nat} {x : Int} (h : Sz a x) (l : a ≤ b) : Sz b x := Nat.lt_of_lt_of_le h (Nat.pow_le_pow_right (by decide) l)
theorem Sz.add {a : Nat} {x y : Int} (h : Sz a x) (k : Sz a y) : Sz (a + 1) (x + y) := by
  unfold Sz at *
  rw [Nat.pow_succ]
  omega
theorem Sz.sub {a : Nat} {x y : Int} (h : Sz a x) (k : Sz a y) : Sz (a + 1) (x - y) := by
  unfold Sz at *
  rw [Nat.pow_succ]
  omega
theorem Sz.mul {a b : Nat} {x y : Int} (h : Sz a x) (k : Sz b y) : Sz (a + b) (x * y) := wide_lt h k
theorem Sz.zero (a : Nat) : Sz a 0 := Nat.pow_pos (by decide)
theorem Sz.bits {n : Int} {b : Nat} (h : Builtin.Int.intBits n ≤ b) : Sz (b + 1) n := by
  unfold Sz
  unfold Builtin.Int.intBits at h
  by_cases e : n.natAbs = 0
  · rw [e]; exact Nat.pow_pos (by decide)
  · have l : n.natAbs < 2 ^ (n.natAbs.log2 + 1) := Nat.lt_log2_self
    refine Nat.lt_of_lt_of_le l (Nat.pow_le_pow_right (by decide) ?_)
    have en : (n == 0) = false := by
      rw [beq_eq_false_iff_ne]
      intro z
      subst z
      exact e rfl
    rw [en] at h
    have h' : n.natAbs.log2 + 1 ≤ b := h
    omega
def CMulX (i j : Int) : Prop := ∃ a b : Nat, Sz a i ∧ Sz b j ∧ a + b ≤ 100000000
theorem log2_le_of {n a : Nat} (h : n < 2 ^ a) : n.log2 ≤ a := by
  by_cases e : n = 0
  · subst e; exact Nat.zero_le _
  · exact Nat.le_of_lt ((Nat.log2_lt e).mpr h)
theorem CMulX.ok {i j : Int} (h : CMulX i j) : IntMulOk i j := by
  obtain ⟨a, b, ha, hb, hab⟩ := h
  have q : ∀ x : Int, Builtin.Int.intBits x ≤ x.natAbs.log2 + 1 := fun x => by
    unfold Builtin.Int.intBits
    split <;> omega
  have h1 := q i
  have h2 := q j
  have h3 := log2_le_of ha
  have h4 := log2_le_of hb
  have e : bitsLine = 134217728 := by decide
  unfold IntMulOk
  intro z
  rw [Bool.and_eq_true] at z
  have z2 := z.2
  unfold Builtin.Int.intTooBig at z2
  have z3 := of_decide_eq_true z2
  rw [e] at z3
  omega
theorem op_mulX {X : Cx} : OpR X (binaryOp .Mult) (rI CMulX fun i j => .int (i * j)) := opI fun _ _ _ _ _ _ _ hc q => PyProof.Rows.mul_int q hc.ok
/-! ### loops and comprehensions over a walk -/
theorem loop_it {J : It} {n : Nat} {G : Hp → Prop} {Y : Nat → Hp → V → Hp → Prop} (w : Walk J n G Y) {g : TG} {tb : TS} {D : Ends} {σ : St} {H : Hp} (Pv : Nat → St → Hp → Prop) (h0 : Pv 0 σ H) (hG : ∀ i σ H, i ≤ n → Pv i σ H → G H)
    (hs : ∀ i x σ H H', i < n → Pv i σ H → Y i H x H' → g x σ H' fun σ2 H2 => tb { D with nx := Pv (i + 1), ct := Pv (i + 1), bk := D.nx } σ2 H2) (hd : ∀ σ H, Pv n σ H → D.nx σ H) : Loop J g tb D σ H := for_it w Pv h0 hG hs hd
theorem loopc_it {J : It} {n : Nat} {G : Hp → Prop} {Y : Nat → Hp → V → Hp → Prop} (w : Walk J n G Y) {g : TG} {tt : TT} {te : TE} {vs : List Nat} {σ : St} {H1 : Hp} {D : Addr} {Qd : Hp → Prop} (Pv : Nat → Hp → Prop) (h0 : Pv 0 (upd H1 D (.lst []))) (hG : ∀ i H, i ≤ n → Pv i H → G H)
    (hs : ∀ i x H H', i < n → Pv i H → Y i H x H' → g x (wipe σ vs) H' fun σ2 H2 => wipe σ2 vs = wipe σ vs ∧ tt σ2 H2 fun b H3 =>
      if b = true then te σ2 H3 fun y H4 => ∃ acc, H4 D = some (.lst acc) ∧ acc.length < sizeLine ∧ Pv (i + 1) (upd H4 D (.lst (acc ++ [y]))) else Pv (i + 1) H3) (hd : ∀ H, Pv n H → Qd H) : LoopC J g tt te vs σ H1 D Qd := lc_it w Pv h0 hG hs hd
theorem same_upd {H : Hp} {p : Addr} {o : HO} (h : H p = none) : Same H (upd H p o) := fun b x e => by
  rw [upd_ne (ne_of_none e h)]
  exact e
theorem same_upd2 {H H' : Hp} {p : Addr} {o : HO} (e : Same H H') (h : H p = none) : Same H (upd H' p o) := fun b x q => by
  rw [upd_ne (ne_of_none q h)]
  exact e _ _ q
/-- [e for ..], without a test, whose element is told by the turn -/
theorem lc_pure {J : It} {n : Nat} {G : Hp → Prop} {Y : Nat → Hp → V → Hp → Prop} (w : Walk J n G Y) {g : TG} {te : TE} {vs : List Nat} {σ : St} {H1 : Hp} {D : Addr} {Qd : Hp → Prop} (f : Nat → V) (hD : H1 D = none) (hn : n ≤ 1000)
    (hG : ∀ H', Same H1 H' → G H') (hY : ∀ i H x H', Y i H x H' → Same H H')
    (hs : ∀ i x H H' (R : VK), i < n → Same H1 H' → Y i H x H' → (∀ H4, Same H' H4 → R (f i) H4) → g x (wipe σ vs) H' fun σ2 H2 => wipe σ2 vs = wipe σ vs ∧ te σ2 H2 R)
    (hd : ∀ H', Same H1 H' → H' D = some (.lst ((List.range n).map f)) → Qd H') : LoopC J g tYes te vs σ H1 D Qd := by
  refine loopc_it w (fun i H => Same H1 H ∧ H D = some (.lst ((List.range i).map f))) ⟨same_upd hD, upd_same⟩ (fun i H _ p => hG H p.1) (fun i x H H' hi p y => ?_) (fun H p => hd H p.1 p.2)
  have hYs := hY _ _ _ _ y
  have q := hs i x H H' (fun y H4 => ∃ acc, H4 D = some (.lst acc) ∧ acc.length < sizeLine ∧ (Same H1 (upd H4 D (.lst (acc ++ [y]))) ∧ upd H4 D (.lst (acc ++ [y])) D = some (.lst ((List.range (i + 1)).map f)))) hi (p.1.trans hYs) y (fun H4 s4 => ?_)
  · exact q
  · refine ⟨_, s4 _ _ (hYs _ _ p.2), ?_, same_upd2 (p.1.trans (hYs.trans s4)) hD, ?_⟩
    · rw [List.length_map, List.length_range]
      exact small1000 (by omega)
    · rw [upd_same, List.range_succ, List.map_append]
      rfl
theorem range_getD {α : Type} (d : α) : ∀ ys : List α, (List.range ys.length).map (fun i => ys[i]?.getD d) = ys := fun ys => by
  refine List.ext_getElem? fun i => ?_
  rw [List.getElem?_map]
  by_cases h : i < ys.length
  · rw [List.getElem?_range h, List.getElem?_eq_getElem h]
    simp [h]
  · rw [List.getElem?_eq_none (by rw [List.length_range]; omega), List.getElem?_eq_none (by omega)]
    rfl
/-- the same by the list that comes out -/
theorem lc_ys {J : It} {n : Nat} {G : Hp → Prop} {Y : Nat → Hp → V → Hp → Prop} (w : Walk J n G Y) {g : TG} {te : TE} {vs : List Nat} {σ : St} {H1 : Hp} {D : Addr} {Qd : Hp → Prop} (ys : List V) (hD : H1 D = none) (hn : n ≤ 1000) (hl : ys.length = n)
    (hG : ∀ H', Same H1 H' → G H') (hY : ∀ i H x H', Y i H x H' → Same H H')
    (hs : ∀ i x y H H' (R : VK), i < n → ys[i]? = some y → Same H1 H' → Y i H x H' → (∀ H4, Same H' H4 → R y H4) → g x (wipe σ vs) H' fun σ2 H2 => wipe σ2 vs = wipe σ vs ∧ te σ2 H2 R)
    (hd : ∀ H', Same H1 H' → H' D = some (.lst ys) → Qd H') : LoopC J g tYes te vs σ H1 D Qd := by
  refine lc_pure w (fun i => ys[i]?.getD .non) hD hn hG hY (fun i x H H' R hi s1 y k => ?_) (fun H' s' e => hd H' s' ?_)
  · have hy : ys[i]? = some (ys[i]?.getD .non) := by
      rw [List.getElem?_eq_getElem (by omega)]
      rfl
    exact hs i x _ H H' R hi hy s1 y k
  · rw [← hl, range_getD] at e
    exact e
theorem walk_zipT {K : PySem.W.Frag} {a b : Addr} {xs ys : List V} {n : Nat} (hn : n = min xs.length ys.length) : Walk (RZ.ItzT K a b) n (fun H => SqT K H a xs ∧ SqT K H b ys) (YPair (fun i => xs[i]?) (fun i => ys[i]?)) := by
  subst hn
  refine ⟨fun i _ hi q => ?_, fun _ q => ⟨xs, ys, q.1, q.2, by omega⟩, fun i H v H' _ q y => ?_⟩
  · have h1 : i < xs.length := by omega
    have h2 : i < ys.length := by omega
    exact ⟨xs, ys, xs[i], ys[i], q.1, q.2, by simp [h1], by simp [h2]⟩
  · obtain ⟨T, x, z, h1, h2, h3, h4, h5⟩ := y
    exact ⟨T, x, z, h1, h2, h3, h4 xs q.1, h5 ys q.2⟩
theorem ypair_same {xs ys : Nat → Option V} : ∀ (i : Nat) (H : Hp) (x : V) (H' : Hp), YPair xs ys i H x H' → Same H H' := fun i H x H' ⟨T, _, _, _, n, e, _⟩ => by
  subst e
  exact same_upd n
theorem yat_same {xs : List V} : ∀ (i : Nat) (H : Hp) (x : V) (H' : Hp), YAt xs i H x H' → Same H H' := fun i H x H' ⟨e, _⟩ => by
  subst e
  exact Same.refl _
theorem yfn_same {f : Nat → V} : ∀ (i : Nat) (H : Hp) (x : V) (H' : Hp), YFn f i H x H' → Same H H' := fun i H x H' ⟨e, _⟩ => by
  subst e
  exact Same.refl _
theorem sameT {K : PySem.W.Frag} {H H' : Hp} {a : Addr} {xs : List V} (e : Same H H') (h : SqT K H a xs) : SqT K H' a xs := by
  rcases h with (h | ⟨o, h⟩) | h
  · exact .inl (.inl (e _ _ h))
  · exact .inl (.inr ⟨o, e _ _ h⟩)
  · exact .inr h
theorem scal_ii (a b : Int) : scal (.int a) (.int b) = true := rfl
theorem scal_ss (a b : Str) : scal (.str a) (.str b) = true := rfl
theorem scal_bb (a b : Bool) : scal (.bl a) (.bl b) = true := rfl
theorem dec_ii (a b : Int) : decide (V.int a = V.int b) = decide (a = b) := decide_eq_decide.mpr (by rw [V.int.injEq])
theorem dec_ss (a b : Str) : decide (V.str a = V.str b) = decide (a = b) := decide_eq_decide.mpr (by rw [V.str.injEq])
theorem dec_bb (a b : Bool) : decide (V.bl a = V.bl b) = decide (a = b) := decide_eq_decide.mpr (by rw [V.bl.injEq])
theorem walk_range0 {n : Nat} : Walk (Itr 0 n) n (fun _ => True) (fun i H x H' => H' = H ∧ x = V.int ((i : Nat) : Int)) :=
  ⟨fun _ _ hi _ => hi, fun _ _ => Nat.le_refl _, fun _ _ _ _ _ _ y => ⟨y.1, by rw [y.2, Int.zero_add]⟩⟩
theorem yat_at {xs : List V} {i : Nat} {H H' : Hp} {x : V} (y : YAt xs i H x H') : H' = H ∧ xs[i]? = some x := y
theorem isi {K : PySem.W.Frag} {H : Hp} {x : V} {a b : String} {r : Bool} {Q : VK} (ty : TyX K H x (.type a)) (hk : kitB a b = some r) (q : Q (.bl r) H) : rIsi K [x, .ty b] H Q :=
  ⟨x, .ty b, .type a, .type b, r, rfl, .ty b, ty, kit_ty hk, q⟩
theorem ty_int {K : PySem.W.Frag} {H : Hp} {i : Int} : TyX K H (.int i) (.type "int") := .base (.int i)
theorem ty_bl {K : PySem.W.Frag} {H : Hp} {i : Bool} : TyX K H (.bl i) (.type "bool") := .base (.bl i)
theorem ty_str {K : PySem.W.Frag} {H : Hp} {i : Str} : TyX K H (.str i) (.type "str") := .base (.str i)
theorem ty_tup {K : PySem.W.Frag} {H : Hp} {a : Addr} {xs : List V} (h : SqT K H a xs) : TyX K H (.ref a) (.type "tuple") := by
  rcases h with (h | ⟨o, h⟩) | ⟨o, _, _, h, c, _⟩
  · exact .base (.tup h)
  · exact .fTuple h
  · exact .kTuple h c
theorem ty_lst {K : PySem.W.Frag} {H : Hp} {a : Addr} {xs : List V} (h : SqL K H a xs) : TyX K H (.ref a) (.type "list") := by
  rcases h with (h | ⟨o, h⟩) | ⟨o, _, _, h, c, _⟩
  · exact .base (.lst h)
  · exact .base (.frz h)
  · exact .kList h c
theorem sqT_upd {K : PySem.W.Frag} {H : Hp} {p b : Addr} {o : HO} {xs ys : List V} (hp : H p = some (.lst xs)) (h : SqT K H b ys) : SqT K (upd H p o) b ys := by
  rcases h with (h | ⟨o, h⟩) | h
  · exact .inl (.inl (by rw [upd_ne (ne_of h hp (by intro z; cases z))]; exact h))
  · exact .inl (.inr ⟨o, by rw [upd_ne (ne_of h hp (by intro z; cases z))]; exact h⟩)
  · exact .inr h
end Bs
namespace Bs
open PySem L2 TL

/-! ### texts -/
theorem call_str_any {X : Cx} : CallR X (.type "str") (fun xs H Q => (∃ i, xs = [.int i] ∧ i.natAbs.log2 < 1920 ∧ Q (.str (toString i)) H) ∨ ∃ a, xs = [.str a] ∧ Q (.str a) H) := by
  intro pins s σ H xs us Q I r h
  rcases h with h | h
  · exact call_str_int pins s σ H xs us Q I r h
  · exact SkE.call_str_str pins s σ H xs us Q I r h
theorem call_intI {X : Cx} : CallR X (.type "int") (fun xs H Q => ∃ i, xs = [.int i] ∧ Q (.int i) H) := by
  intro pins s σ H xs us Q I r h
  exact call_int1 pins s σ H xs us Q I r (.inl h)
/-- z repeated n times -/
def rep (z : Str) (n : Nat) : Str := ⟨((List.replicate n (tl z)).flatten).toArray⟩
theorem tl_rep (z : Str) (n : Nat) : tl (rep z n) = (List.replicate n (tl z)).flatten := rfl
theorem rep_len (z : Str) (n : Nat) : (rep z n).length = z.length * n := by
  rw [len_tl, len_tl, tl_rep, List.length_flatten, List.map_replicate]
  generalize (tl z).length = k
  induction n with
  | zero => rfl
  | succ n ih => rw [List.replicate_succ, List.sum_cons, ih, Nat.mul_succ]; omega
theorem foldl_app (l : List (Array Nat)) : ∀ a : Array Nat, (l.foldl (· ++ ·) a).toList = a.toList ++ (l.map Array.toList).flatten := by
  induction l with
  | nil => intro a; simp
  | cons x r ih => intro a; simp [ih, List.append_assoc]
theorem mul_rep (z : Str) (n : Nat) : Txt.mul z (n : Int) = rep z n := by
  refine ext_tl ?_
  rw [tl_rep]
  unfold Txt.mul
  by_cases h1 : ((n : Nat) : Int) < 1
  · have e : n = 0 := by omega
    subst e
    rw [if_pos h1]
    rfl
  · rw [if_neg h1]
    split
    · rename_i h2
      rw [Bool.or_eq_true, beq_iff_eq, beq_iff_eq] at h2
      rcases h2 with h2 | h2
      · have e : n = 1 := by omega
        subst e
        simp
      · have e : tl z = [] := (len0_tl z).mp h2
        rw [e]
        simp
    · show (List.foldl (· ++ ·) #[] (List.replicate ((n : Int)).toNat z.cps)).toList = _
      rw [foldl_app, Int.toNat_natCast, List.map_replicate]
      rfl
def rRepS : R2 := fun x y H Q => ∃ (z : Str) (n : Nat), x = .str z ∧ y = .int (n : Int) ∧ z.length ≤ 1000 ∧ n ≤ 1000 ∧ Q (.str (rep z n)) H
theorem op_repS {X : Cx} : OpR X (binaryOp .Mult) rRepS := by
  intro pins s σ H x y v u Q I rx ry h
  obtain ⟨z, n, rfl, rfl, hz, hn, q⟩ := h
  obtain ⟨t, rfl⟩ := rx
  obtain ⟨t', rfl⟩ := ry
  refine SB.mul (n := (n : Int)) ⟨?_, fun h1 _ => ?_, fun h1 _ => ?_⟩ fun t1 k => ⟨.str (rep z n), H, I.tok k, ⟨t1, by rw [mul_rep]⟩, q⟩
  · rw [Bool.or_eq_false_iff]
    constructor <;> rw [decide_eq_false_iff_not] <;> omega
  · have hn1 : 1 ≤ (n : Int) := by omega
    have h2 : (1000 : Int) ≤ (2 ^ 63 - 1) / (n : Int) := by
      rw [Int.le_ediv_iff_mul_le (by omega)]
      omega
    omega
  · show decide (z.length * ((n : Int)).toNat > sizeLine) = false
    have hm : z.length * n ≤ 1000 * 1000 := Nat.mul_le_mul hz hn
    rw [Int.toNat_natCast]
    exact decide_eq_false (by have : (1000 * 1000 : Nat) < sizeLine := by decide
                              omega)
theorem len_app (x y : Str) : (x ++ y).length = x.length + y.length := Str.length_append x y
/-- the texts of a list, one behind the other -/
def flat (ps : List Str) : Str := Str.join Str.empty ps
theorem tl_flat (ps : List Str) : tl (flat ps) = (ps.map tl).flatten := by
  unfold flat
  rw [tl_join]
  show joinL [] (ps.map tl) = _
  generalize ps.map tl = l
  induction l with
  | nil => rfl
  | cons x r ih =>
    cases r with
    | nil => simp [joinL]
    | cons y r => rw [joinL, ih]; simp
theorem flat_snoc (ps : List Str) (x : Str) : flat (ps ++ [x]) = flat ps ++ x := by
  refine ext_tl ?_
  rw [tl_append, tl_flat, tl_flat]
  simp
theorem flat_len (ps : List Str) : (ps.map (·.length)).sum = (flat ps).length := by
  rw [len_tl, tl_flat, List.length_flatten, List.map_map]
  congr 1
theorem join_flat (e : Str) (h : tl e = []) (ps : List Str) : Txt.join e ps = flat ps := by
  rw [join_eq]
  refine ext_tl ?_
  rw [tl_join, tl_flat, h]
  generalize ps.map tl = l
  induction l with
  | nil => rfl
  | cons x r ih =>
    cases r with
    | nil => simp [joinL]
    | cons y r => rw [joinL, ih]; simp

theorem cut_take (z : Str) (n : Nat) : tl (cutS z none (some (n : Int))) = (tl z).take n := by
  show ((tl z).drop (HT.sIx z.length 0 none)).take (HT.sIx z.length z.length (some (n : Int)) - HT.sIx z.length 0 none) = _
  rw [HT.sIx_none, HT.sIx_nat, List.drop_zero, Nat.sub_zero, len_tl]
  by_cases h : n ≤ (tl z).length
  · rw [Nat.min_eq_left h]
  · rw [Nat.min_eq_right (by omega), List.take_of_length_le (Nat.le_refl _), List.take_of_length_le (by omega)]
theorem cut_drop (z : Str) (n : Nat) : tl (cutS z (some (n : Int)) none) = (tl z).drop n := by
  show ((tl z).drop (HT.sIx z.length 0 (some (n : Int)))).take (HT.sIx z.length z.length none - HT.sIx z.length 0 (some (n : Int))) = _
  rw [HT.sIx_none, HT.sIx_nat, len_tl]
  by_cases h : n ≤ (tl z).length
  · rw [Nat.min_eq_left h, List.take_of_length_le (by rw [List.length_drop]; omega)]
  · rw [Nat.min_eq_right (by omega), Nat.sub_self, List.take_zero, List.drop_eq_nil_of_le (by omega)]
theorem tl1 (c : Nat) : tl ⟨#[c]⟩ = [c] := rfl
theorem sum_ones {α : Type} : ∀ l : List α, (l.map fun _ => 1).sum = l.length
  | [] => rfl
  | x :: l => by
    rw [List.map_cons, List.sum_cons, sum_ones l, List.length_cons]
    omega
theorem sgn_inj {a b : Nat} (h : (⟨#[a]⟩ : Str) = ⟨#[b]⟩) : a = b := by
  have e := congrArg tl h
  rw [tl1, tl1] at e
  exact List.head_eq_of_cons_eq e
theorem sgn_eq (a b : Nat) : ((⟨#[a]⟩ : Str) = ⟨#[b]⟩) = (a = b) := propext ⟨sgn_inj, fun h => by rw [h]⟩
/-! ### a while, by a word with its measure -/
def Turn (W : Nat → St → Hp → Prop) (m : Nat) (tb : TS) (D : Ends) (σ : St) (H : Hp) : Prop := ∃ N : St → Hp → Prop, (∀ σ' H', N σ' H' → ∃ m', m' < m ∧ W m' σ' H') ∧ tb { D with nx := N, ct := N, bk := D.nx } σ H
theorem turn_of {W : Nat → St → Hp → Prop} {m : Nat} {tb : TS} {D : Ends} {σ : St} {H : Hp} (h : tb { D with nx := fun σ' H' => ∃ m', m' < m ∧ W m' σ' H', ct := fun σ' H' => ∃ m', m' < m ∧ W m' σ' H', bk := D.nx } σ H) : Turn W m tb D σ H := ⟨_, fun _ _ h => h, h⟩
theorem loopw {c : TT} {tb : TS} {D : Ends} {σ : St} {H : Hp} (W : Nat → St → Hp → Prop) (m : Nat) (h0 : W m σ H) (hs : ∀ m σ H, W m σ H → c σ H fun b H1 => if b = true then Turn W m tb D σ H1 else D.nx σ H1) : LoopW c tb D σ H := ⟨W, ⟨m, h0⟩, hs⟩
theorem cut_mid (z : Str) (i k : Nat) : tl (cutS z (some (i : Int)) (some ((i : Int) + (k : Int)))) = ((tl z).drop i).take k := by
  have e : (i : Int) + (k : Int) = ((i + k : Nat) : Int) := by omega
  rw [e]
  show ((tl z).drop (HT.sIx z.length 0 (some (i : Int)))).take (HT.sIx z.length z.length (some ((i + k : Nat) : Int)) - HT.sIx z.length 0 (some (i : Int))) = _
  rw [HT.sIx_nat, HT.sIx_nat, len_tl]
  by_cases h : i ≤ (tl z).length
  · rw [Nat.min_eq_left h]
    by_cases h2 : i + k ≤ (tl z).length
    · rw [Nat.min_eq_left h2, Nat.add_sub_cancel_left]
    · rw [Nat.min_eq_right (by omega)]
      rw [List.take_of_length_le (by rw [List.length_drop]; omega), List.take_of_length_le (by rw [List.length_drop]; omega)]
  · rw [Nat.min_eq_right (by omega), Nat.min_eq_right (by omega), Nat.sub_self, List.take_zero, List.drop_eq_nil_of_le (by omega), List.take_nil]
/-! ### a list's item at an open place -/
theorem atI_in {α : Type} {xs : List α} {i : Int} (h0 : 0 ≤ i) (h1 : i < xs.length) : ∃ x, atI xs i = some x ∧ x ∈ xs := by
  obtain ⟨n, rfl⟩ : ∃ n : Nat, i = (n : Int) := ⟨i.toNat, by omega⟩
  have hn : n < xs.length := by omega
  exact ⟨xs[n], atI_nat (List.getElem?_eq_getElem hn), List.getElem_mem hn⟩

/-! ### v in a list of texts -/
theorem inV_str (v : Str) : ∀ l : List Str, inV (.str v) (l.map V.str) = decide (v ∈ l)
  | [] => rfl
  | x :: l => by
    show (eqV (.str x) (.str v) || inV (.str v) (l.map V.str)) = _
    rw [inV_str v l]
    show (decide (x = v) || _) = _
    rw [← Bool.decide_or]
    refine decide_eq_decide.mpr ?_
    rw [List.mem_cons]
    constructor
    · rintro (h | h)
      · exact .inl h.symm
      · exact .inr h
    · rintro (h | h)
      · exact .inl h.symm
      · exact .inr h
theorem flat_strs : ∀ zs : List Str, (zs.map V.str).all flatV = true
  | [] => rfl
  | _ :: zs => flat_strs zs
theorem rin {K : PySem.W.Frag} {H : Hp} {p : Addr} (zs : List Str) {v : Str} {Q : VK} (h : SqL K H p (zs.map V.str) ∨ SqT K H p (zs.map V.str)) (q : Q (.bl (decide (v ∈ zs))) H) : rIn K false (.str v) (.ref p) H Q :=
  ⟨p, zs.map V.str, rfl, h, rfl, flat_strs zs, by rw [inV_str]; exact q⟩
theorem rnin {K : PySem.W.Frag} {H : Hp} {p : Addr} (zs : List Str) {v : Str} {Q : VK} (h : SqL K H p (zs.map V.str) ∨ SqT K H p (zs.map V.str)) (q : Q (.bl (!decide (v ∈ zs))) H) : rIn K true (.str v) (.ref p) H Q :=
  ⟨p, zs.map V.str, rfl, h, rfl, flat_strs zs, by rw [inV_str]; exact q⟩
/-! ### the law's stream of numbers: a list of two lists -/
structure Stm (H : Hp) (st d p : Addr) : Prop where
  at_ : H st = some (.lst [.ref d, .ref p])
  dg : ∃ ds : List Int, H d = some (.lst (ds.map V.int)) ∧ ds ≠ []
  pl : ∃ i : Int, H p = some (.lst [.int i])
  n1 : st ≠ p
  n2 : d ≠ p
/-- all but what stands at p is as it was -/
structure Stp (p : Addr) (H H' : Hp) : Prop where
  keep : ∀ b o, b ≠ p → H b = some o → H' b = some o
  pl : ∃ i : Int, H' p = some (.lst [.int i])
theorem Stp.trans {p : Addr} {H H1 H2 : Hp} (a : Stp p H H1) (b : Stp p H1 H2) : Stp p H H2 := ⟨fun c o n e => b.keep c o n (a.keep c o n e), b.pl⟩
theorem Stm.step {H H' : Hp} {st d p : Addr} (x : Stm H st d p) (e : Stp p H H') : Stm H' st d p :=
  ⟨e.keep _ _ x.n1 x.at_, let ⟨ds, h, n⟩ := x.dg; ⟨ds, e.keep _ _ x.n2 h, n⟩, e.pl, x.n1, x.n2⟩
theorem Stm.refl {H : Hp} {st d p : Addr} (x : Stm H st d p) : Stp p H H := ⟨fun _ _ _ e => e, x.pl⟩
theorem Stm.same {H H' : Hp} {st d p : Addr} (x : Stm H st d p) (e : Same H H') : Stp p H H' := ⟨fun b o _ h => e b o h, let ⟨i, h⟩ := x.pl; ⟨i, e _ _ h⟩⟩
theorem Stp.same {p : Addr} {H H1 H2 : Hp} (a : Stp p H H1) (e : Same H1 H2) : Stp p H H2 := ⟨fun b o n h => e _ _ (a.keep b o n h), let ⟨i, h⟩ := a.pl; ⟨i, e _ _ h⟩⟩
theorem Stp.tup {p : Addr} {H H' : Hp} {b : Addr} {xs : List V} (a : Stp p H H') {i : Int} (hp : H p = some (.lst [.int i])) (h : H b = some (.tup xs)) : H' b = some (.tup xs) :=
  a.keep b _ (ne_of h hp (by intro z; cases z)) h
theorem Stp.sqT {K : PySem.W.Frag} {p : Addr} {H H' : Hp} {b : Addr} {xs : List V} (a : Stp p H H') {i : Int} (hp : H p = some (.lst [.int i])) (h : SqT K H b xs) : SqT K H' b xs := by
  rcases h with (h | ⟨o, h⟩) | h
  · exact .inl (.inl (a.tup hp h))
  · exact .inl (.inr ⟨o, a.keep _ _ (ne_of h hp (by intro z; cases z)) h⟩)
  · exact .inr h
theorem Stp.free {p : Addr} {H H' : Hp} (a : Stp p H H') {b : Addr} (h : H' b = none) (n : b ≠ p) : H b = none := by
  cases e : H b with
  | none => rfl
  | some o =>
    have h2 := a.keep _ _ n e
    rw [h] at h2
    cases h2
theorem Stp.ne {p : Addr} {H H' : Hp} (a : Stp p H H') {b : Addr} (h : H' b = none) : b ≠ p := by
  obtain ⟨i, e⟩ := a.pl
  exact (ne_of_none e h).symm
/-- what is put at a new place behind a step -/
theorem Stp.upd {p : Addr} {H H' : Hp} (a : Stp p H H') {b : Addr} {o : HO} (h : H b = none) (n : b ≠ p) : Stp p H (upd H' b o) :=
  ⟨fun c u nc e => by rw [upd_ne (ne_of_none e h)]; exact a.keep _ _ nc e, let ⟨i, e⟩ := a.pl; ⟨i, by rw [upd_ne n.symm]; exact e⟩⟩
/-- p was free before: then nothing that stood is changed -/
theorem Stp.fresh {p : Addr} {H0 H H' : Hp} (a : Stp p H H') (s : Same H0 H) (h : H0 p = none) : Same H0 H' := fun b o e => a.keep b o (ne_of_none e h) (s b o e)
end Bs
namespace Bs
open PySem L2 TL NdefX
/-! ### super().__init__(..) in an own exception's __init__ -/
/-- what the written part says of the method at f, of the class C -/
structure SupC (P : Program) (K : PySem.W.Frag) (mg : Str → Option Value) (F : NF) (f cc C : Addr) (sf : Str) : Prop where
  lk : ∃ oc od osl doc pm ctv, K.lookup f = some (⟨oc, od, .func (F.fd doc pm ctv), osl⟩ : Obj)
  hd : ∃ ar : Arg, (F.params.posonlyargs ++ F.params.args).head? = some ar ∧ ar.arg = sf
  code : ∃ (ccl : Value) (cdd : Option Addr) (vs : Array Value) (ccs : Array (Option Value)) (file : Str) (tf : Tok), K.lookup F.c = some (⟨ccl, cdd, .fields vs, ccs⟩ : Obj) ∧ vs[2]? = some (.str file tf) ∧ ((P.main.file : Str) == file) = true
  cl : F.cl = [(("__class__" : Str), cc)]
  cell : ∃ (cl : Value) (cld : Option Addr) (csl : Array (Option Value)), K.lookup cc = some (⟨cl, cld, .cell (some (.ref C)), csl⟩ : Obj)
  cls : ∃ cd, PySem.W.clsIn K C = some cd
  sub : PySem.W.mroIn K C (.ref C) = some true
  sup : mg "super" = none
  ks : F.scope.names.lookup ("super" : Str) = some .globalImplicit
  kc : F.scope.names.lookup ("__class__" : Str) = some .free
  ka : F.scope.names.lookup sf = some .local
  top : (P.main.scope.names.lookup ("super" : Str)).isSome = false
  any : PySem.W.nsIn K PySem.cStatics "thirdparty.any" = some none
  sin : PySem.W.ks_superIn K C C "__init__" = some (some (.builtin "ValueError.__init__"))
  sVE : PySem.W.subIn K (.ref C) (.type "ValueError") = some true

section
variable {CX : CXT} {P : Program} {w : World} {K : PySem.W.Frag} {mg : Str → Option Value} {base : Heap} {N : List Str} {F : NF} {f cc C a : Addr} {A : Around} {outer : List Env} {s0 : Shared} {H0 : Hp} {E : XK} {self : Str} {e : Expr} {es : List Expr} {p0 p1 p2 pos : Pos} {ta : TA}
theorem sup_init {pins : List (Addr × Obj)} {σ : L2.St} {H : Hp} {s : Shared} {Q : VK} {pl : Sem Bool} (S : SupC P K mg F f cc C self) (T : OexC K C) (I : Inv (ncx CX P w K mg base N F f A outer s0 H0 E) pins σ H s)
    (hN : N[0]? = some self) (hσ : σ[0]? = some (some (.ref a))) (ea : H a = some (exo a C none)) (ha : PA (ncx CX P w K mg base N F f A outer s0 H0 E) (e :: es) ta) (h : ta σ H fun vs H1 => vs.length ≤ 1000 ∧ H1 a = some (exo a C none) ∧ Q .non H1)
    (he : starEach (e :: es) (envF F f s0.heap.objs.size) = (false, eval e (envF F f s0.heap.objs.size)) :: starEach es (envF F f s0.heap.objs.size)) (hpl : (backTo pos (starEach es (envF F f s0.heap.objs.size))).any (·.1) = false)
    (hc : eval (.Call (.Attribute (.Call (.Name "super" p0) [] [] p1) "__init__" p2) (e :: es) [] pos) (envF F f s0.heap.objs.size) = (do
      let ov ← attributeBase (.Call (.Name "super" p0) [] [] p1) "__init__" (envF F f s0.heap.objs.size) (eval (.Call (.Name "super" p0) [] [] p1) (envF F f s0.heap.objs.size))
      standAt p2.atName
      let (f', first) ← holding [ov] (getMethod ov "__init__" pl)
      callWith pos f' first (backTo pos (starEach (e :: es) (envF F f s0.heap.objs.size))) [])) :
    wpAt (model P w) (A.deeper (envF F f s0.heap.objs.size)) (.func F.body (envF F f s0.heap.objs.size)) (eval (.Call (.Attribute (.Call (.Name "super" p0) [] [] p1) "__init__" p2) (e :: es) [] pos) (envF F f s0.heap.objs.size))
      (EP (ncx CX P w K mg base N F f A outer s0 H0 E) pins σ Q) (ncx CX P w K mg base N F f A outer s0 H0 E).xe s := by
  have KX : K.In s.heap := I.kIn
  obtain ⟨oc, od, osl, doc, pm, ctv, lk⟩ := S.lk
  obtain ⟨ar, hd, har⟩ := S.hd
  obtain ⟨ccl, cdd, vs, ccs, file, tf, hcode, hvs, hfile⟩ := S.code
  obtain ⟨cl, cld, csl, hcell⟩ := S.cell
  obtain ⟨cd, hcd⟩ := S.cls
  obtain ⟨oD, hD1, hD2⟩ : ∃ oD, s.heap.get? C = some oD ∧ oD.data = .cls cd := by
    unfold PySem.W.clsIn at hcd
    split at hcd
    · rename_i c d cd' sl ho
      cases hcd
      exact ⟨_, KX _ _ ho, rfl⟩
    · cases hcd
  refine ks_wpAt_MethodCall (pl := pl) ?_ hc
  refine ks_wpAt_super_base (env := envF F f s0.heap.objs.size) (f := f) (cc := F.c) S.ks S.kc (by decide +kernel) rfl (KX _ _ lk) rfl hd rfl (KX _ _ hcode) rfl hvs hfile S.top ?_
  obtain ⟨mb, b1, b2⟩ := I.mod.blt
  refine PySem.W.ks_loadName_global (env := envF F f s0.heap.objs.size) I.ok.kind S.ks (Calls.loadGlobal_builtin (env := envF F f s0.heap.objs.size) (I.mod.glob.keeps I.bk) S.sup (b1.keeps I.bk) ((b2 "super" (by decide)).trans (by first | boot_by_name | rfl | kernel_rfl)) ⟨rfl, ?_⟩)
  refine wpAny_loadName_free (env := envF F f s0.heap.objs.size) I.ok.kind S.kc (by show List.lookup _ F.cl = _; rw [S.cl]; rfl) ⟨_, KX _ _ hcell, rfl⟩ ?_
  obtain ⟨m, hns, hl⟩ := I.loc
  obtain ⟨u, ru, lk2⟩ := hl 0 self _ hN hσ (.inl S.ka)
  obtain rfl : u = Value.ref a := ru
  have hm : m self = some (.ref a) := by
    rcases lk2 with ⟨_, z⟩ | ⟨z, _⟩
    · exact z
    · have z2 : F.scope.names.lookup self = some .cell ∨ F.scope.names.lookup self = some .free := z
      rw [S.ka] at z2
      rcases z2 with z2 | z2 <;> cases z2
  rw [har]
  refine wpAny_loadName_local (env := envF F f s0.heap.objs.size) I.ok.kind S.ka hns hm ?_
  refine ks_wpAny_isType_cls hD1 hD2 ⟨rfl, ?_⟩
  obtain ⟨t1, hx⟩ := exo_at I.hok ea
  obtain ⟨hp, g, d, t, os⟩ := s
  refine ks_wpAny_call_super hD1 hD2 hx rfl (fun c z => by cases z) (PySem.W.looks_mroIn KX S.sub) (fun h' e' k => ?_)
  have I1 : Inv (ncx CX P w K mg base N F f A outer s0 H0 E) pins σ H ⟨h', g, d, t, os⟩ := I.kept (t' := t) k
  have sin := S.sin
  unfold PySem.W.ks_superIn at sin
  rw [hcd] at sin
  obtain ⟨t2, hx1⟩ := exo_at I1.hok ea
  have hinst : PySem.W.Looks (model P w) h' (isInstance (.ref a) (.type "ValueError")) true := (PySem.W.InstAt.type (od := none) ⟨hx1, rfl, rfl, trivial⟩).andThen (PySem.W.looks_subIn I1.kIn S.sVE)
  have hne : a ≠ C := fun z => by
    have h2 := k _ _ hD1
    rw [← z, hx1] at h2
    cases h2
    cases hD2
  refine PySem.W.kxs_getMethod PySem.W.kxs_ValueError e' (PySem.W.looks_opaque I1.kIn S.any) (l₀ := cd.mro) (fun A Q E s k q => wpAny_bind ((PySem.W.looks_clsIn I1.kIn hcd) A _ E s k (wpAny_pure q))) rfl I1.kIn sin hinst hne (by decide +kernel) ?_
  have I2 : Inv (ncx CX P w K mg base N F f A outer s0 H0 E) pins σ H ⟨h'.push (PySem.W.kxs_mw "ValueError.__init__" a), g, d, t + 1, os⟩ := I1.kept (t' := t + 1) fun b o q => Heap.get?_push_of_some _ q
  have I3 : Inv (ncx CX P w K mg base N F f A outer s0 H0 E) ((h'.objs.size, PySem.W.kxs_mw "ValueError.__init__" a) :: pins) σ H ⟨h'.push (PySem.W.kxs_mw "ValueError.__init__" a), g, d, t + 1, os⟩ := I2.pins_of fun p hp => by
    rcases List.mem_cons.mp hp with rfl | hp
    · refine ⟨Heap.get?_push_at rfl rfl, I1.hok.fresh (Nat.le_refl _), ?_, I1.nofs (Nat.le_refl _), fun v z => by cases z⟩
      exact (Nat.ne_of_lt I1.lt).symm
    · exact I2.pin p (List.mem_append_right _ hp)
  show wpAny (model P w) _ (callWith pos (.ref h'.objs.size) [] (backTo pos (starEach (e :: es) (envF F f s0.heap.objs.size))) []) _ _ _
  have hrun := ha.run pos _ _ σ H _ I3 h
  rw [show (ncx CX P w K mg base N F f A outer s0 H0 E).env = envF F f s0.heap.objs.size from rfl, he] at hrun
  rw [he]
  refine PySem.W.kxs_callWith (i := "ValueError.__init__") (x := a) (by show (false || (backTo pos (starEach es (envF F f s0.heap.objs.size))).any (·.1)) = false; rw [hpl]; rfl) ?_
  refine PySem.Calls.evalArgs_plain (thn hrun fun us s1 ⟨vs, H1, I4, r1, hl, e1, q⟩ => ⟨(I4.pin _ (List.mem_append_right _ List.mem_cons_self)).1, ?_⟩)
  have hu := (I4.pin _ (List.mem_append_right _ List.mem_cons_self)).1
  have I5 : Inv (ncx CX P w K mg base N F f A outer s0 H0 E) pins σ H1 s1 := I4.pins_of fun p hp => I4.pin p (List.mem_append_right _ (List.mem_cons_of_mem _ hp))
  obtain ⟨nm, q', N', bs, bm, sn, sub, ab, col, dd, k0, k1, k2, k3, k5, hC, hbm⟩ := T.cls
  obtain ⟨t4, ho⟩ := exo_at I5.hok e1
  have hz : us.length ≤ sizeLine := by
    rw [← PySem.Paired.length r1, sizeLine_eq]
    omega
  obtain ⟨hp1, g1, d1, tk1, os1⟩ := s1
  show wpAny (model P w) _ (call (.ref h'.objs.size) us) _ _ _
  refine wpAny_call (codeAny_of_tree ?_)
  show wpAny _ _ (callAny (.ref h'.objs.size) ⟨us, []⟩) _ _ _
  simp only [callAny]
  refine wpAny_bind (wpAny_load hu ?_)
  simp only [PySem.W.kxs_mw, show (Value.type "method-wrapper" == Value.type "method" || Value.type "method-wrapper" == Value.type "builtin_function_or_method" || Value.type "method-wrapper" == Value.type "method-wrapper") = true by decide, if_true]
  refine PySem.W.KFB.if_so (by decide) ?_
  refine wpAny_bind (PySem.W.check_bound_init PySem.F.excBase_ValueError.toExcCallFacts (I5.kIn _ _ hC) ho rfl ?_)
  refine wpAny_bind (wpAny_pure (wpAny_pure ?_))
  refine ⟨plainId_quiet PySem.F.excBase_ValueError.init.plain _, codeAny_builtin PySem.F.excBase_ValueError.initEntry ?_⟩
  refine PySem.W.exc_init_tree (cls := .ref C) (t0 := t4) (dv := none) (c2 := .none) (c3 := .none) (b4 := .bool false) ho hz fun h2 k2 hx2 _ => ?_
  have J := I5.write (t' := tk1) (x := a) (e := a) (o := exo a C none) (by rw [e1]; exact True.intro) (.inl rfl) k2 ⟨_, hx2⟩ (exo_ok hx2)
  have eu : upd H1 a (exo a C none) = H1 := by
    funext b
    by_cases hb : b = a
    · rw [hb, upd_same, e1]
    · rw [upd_ne hb]
  rw [eu] at J
  exact ⟨.non, H1, J, rfl, q⟩

/-- THE RULE: an __init__ that begins with super().__init__(e, ..) -/
theorem fn_super {ps : List Str} {k : Nat} {sp : Sp} {fd : FuncData} {rest : List Stmt} {pE : Pos} (S : SupC P K mg F f cc C self) (T : OexC K C) (hcd : PySem.W.codeIn K (.ref F.c) F.qual = true) (Sc : NScope N ps [("__class__" : Str)] F.scope)
    (hfd : ∃ (oc : Value) (od : Option Addr) (osl : Array (Option Value)) (doc pm ctv : Value), fd = F.fd doc pm ctv ∧ K.lookup f = some (⟨oc, od, .func (F.fd doc pm ctv), osl⟩ : Obj))
    (hN : N[0]? = some self) (hb0 : F.body = .Expr (.Call (.Attribute (.Call (.Name "super" p0) [] [] p1) "__init__" p2) (e :: es) [] pos) pE :: rest) (len : ∀ vs H Q E, sp vs H Q E → vs.length = ps.length)
    (he : ∀ L, starEach (e :: es) (envF F f L) = (false, eval e (envF F f L)) :: starEach es (envF F f L)) (hpl : ∀ L, (backTo pos (starEach es (envF F f L))).any (·.1) = false)
    (hc : ∀ L, eval (.Call (.Attribute (.Call (.Name "super" p0) [] [] p1) "__init__" p2) (e :: es) [] pos) (envF F f L) = (do
      let ov ← attributeBase (.Call (.Name "super" p0) [] [] p1) "__init__" (envF F f L) (eval (.Call (.Name "super" p0) [] [] p1) (envF F f L))
      standAt p2.atName
      let (f', first) ← holding [ov] (getMethod ov "__init__" (do return (← importBound (.Call (.Name "super" p0) [] [] p1) (envF F f L)).getD true))
      callWith pos f' first (backTo pos (starEach (e :: es) (envF F f L))) []))
    (hi : ∀ L, interactive (envF F f L) = false) (hsw : ∀ L, swapsWith (.Call (.Attribute (.Call (.Name "super" p0) [] [] p1) "__init__" p2) (e :: es) [] pos) none pE.line (envF F f L) = pure false)
    (hrun : ∀ (A : Around) (outer : List Env) (s : Shared) (H : Hp) (vs : List V) (Q : VK) (E : XK), Room k (A.deeper (envF F f s.heap.objs.size)) → sp vs H Q E → ∃ ta t a, PA (ncx CX P w K mg base N F f A outer s H E) (e :: es) ta ∧ PSs (ncx CX P w K mg base N F f A outer s H E) rest t ∧
      (startF N vs [some (.ref C)])[0]? = some (some (.ref a)) ∧ H a = some (exo a C none) ∧ ta (startF N vs [some (.ref C)]) H fun ws H1 => ws.length ≤ 1000 ∧ H1 a = some (exo a C none) ∧ t { nx := fun _ H' => Q .non H', rt := Q } (startF N vs [some (.ref C)]) H1) :
    FnOk P w K mg base CX (k + 1) f fd ps sp := by
  obtain ⟨oc, od, osl, doc, pm, ctv, rfl, lk⟩ := hfd
  refine ⟨len, fun A outer s H args us vs Q E hr e0 hb r hsp => ?_⟩
  have KX : K.In s.heap := e0.mod.kin.keeps fun b o e => (e0.bs b o e).1
  have hl := len _ _ _ _ hsp
  have lim : s.heap.NoLimit := e0.mod.nolimit.keeps fun b o e => (e0.bs b o e).1
  obtain ⟨cl, cld, csl, hcell⟩ := S.cell
  have hcc : s.heap.IsCell cc (some (.ref C)) := ⟨_, KX _ _ hcell, rfl⟩
  have lone : ∀ y c, F.cl.lookup y = some c → y = ("__class__" : Str) ∧ c = cc := fun y c z => by
    rw [S.cl] at z
    have hm := PySem.mem_of_lookup z
    have hm2 := List.mem_singleton.mp hm
    exact ⟨congrArg Prod.fst hm2, congrArg Prod.snd hm2⟩
  have Cc : CellsAt F.cl [("__class__" : Str)] [some (.ref C)] s.heap H := by
    refine ⟨rfl, fun y c z => ?_, fun x y c h1 h2 => (lone _ _ h1).1.trans (lone _ _ h2).1.symm, fun i y z => ?_⟩
    · obtain ⟨_, rfl⟩ := lone y c z
      exact ⟨(e0.bs _ _ (e0.mod.kin _ _ hcell)).2, _, hcc⟩
    · have hy : y = ("__class__" : Str) := List.mem_singleton.mp (List.mem_of_getElem? z)
      have hi0 : i = 0 := by
        have h1 := (List.getElem?_eq_some_iff.mp z).1
        rw [List.length_singleton] at h1
        omega
      subst hi0
      refine ⟨cc, by rw [hy, S.cl]; rfl, fun v hv => ?_⟩
      cases hv
      exact ⟨.ref C, rfl, hcc⟩
  refine codeAny_call_function hr.depth (KX _ _ lk) rfl Sc.co Sc.gen rfl (PySem.W.codeRec_of KX hcd) (hb _ _ _ _ ?_)
  refine wpAny_newFunctionEnv Sc.nocell (fun ⟨n, _⟩ hy => Sc.par n (List.of_mem_zip hy).1) (fun h₁ hns hsb => ⟨lim.fresh _ hsb, ?_⟩) Sc.kind
  show codeAny _ _ (.func F.body (envF F f s.heap.objs.size)) _ _
  have kp : ∀ b o, s.heap.get? b = some o → h₁.get? b = some o := fun b o e => hsb.extBut b o (Nat.ne_of_lt (Heap.lt_size e)) (Heap.get?_push_of_some _ e)
  obtain ⟨ta, t, a, hta, ht, hσ, ea, hq⟩ := hrun A outer s H vs Q E (hr.deeper _) hsp
  have I : Inv (ncx CX P w K mg base N F f A outer s H E) [] (startF N vs [some (.ref C)]) H { s with heap := h₁, toks := s.toks + (ps.zip us).length } := inv_startN Sc hr.hd e0 hl r Cc hns kp
  refine ks_codeAny_funcAt ?_
  rw [show execs F.body (envF F f s.heap.objs.size) = execs (.Expr (.Call (.Attribute (.Call (.Name "super" p0) [] [] p1) "__init__" p2) (e :: es) [] pos) pE :: rest) (envF F f s.heap.objs.size) by rw [hb0]]
  refine ks_wpAt_execs_cons ?_
  refine ks_wpAt_Expr_any ?_ (hi _) (hsw _)
  refine wpAt_mono (sup_init (Q := fun _ H1 => t { nx := fun _ H' => Q .non H', rt := Q } (startF N vs [some (.ref C)]) H1) S T I hN hσ ea hta hq (he _) (hpl _) (hc _)) (fun v s1 hv => ?_) fun e s' hs => hs
  obtain ⟨x, H1, I1, _, q⟩ := hv
  refine wpAt_of_wpAny (wpAny_mono (ht.run [] _ _ H1 _ I1 q) (fun fl s' hs => ?_) fun e s' hs => hs)
  have fin : ∀ {σ' : L2.St} {H' : Hp} {v : V} {u : Value}, Inv (ncx CX P w K mg base N F f A outer s H E) [] σ' H' s' → L2.RelV v u → Q v H' → CE outer P w H s Q u s' :=
    fun {σ' H' v u} J rv q => ⟨v, H', J.os, J.bare, J.base, J.hok, rv, q⟩
  cases fl with
  | ret u =>
    obtain ⟨v, σ', H', J, rv, q⟩ := hs
    exact fin J rv q
  | next =>
    obtain ⟨σ', H', J, q⟩ := hs
    exact fin (v := V.non) (u := Value.none) J rfl q
  | brk =>
    obtain ⟨_, _, _, q⟩ := hs
    exact False.elim q
  | cont =>
    obtain ⟨_, _, _, q⟩ := hs
    exact False.elim q
end
end Bs
namespace Bs
open PySem PySem.Spec PyProof.Rows L2 TL
/-! ### raise C(..) where a suite that catches it may call defs: its context is told -/
theorem pmkN_own {X : Cx} {e : Expr} {es : List Expr} {ta : TA} {p pos : Pos} {CX : CXT} {x : Str} {C fI : Addr} {k : Nat} {fd : FuncData} {ps : List Str} {sp : Sp} (T : OexC X.K C) (iC : PySem.W.findIn X.K (.ref C) "__init__" = some (some (.ref fI))) (tI : PySem.W.typeIn X.K (.ref fI) = some (.type "function"))
    (F1 : FnOk X.prog X.w X.K X.mg X.base CX k fI fd ps sp) (hr : Room (k + 1) X.A) (hb : Binds X.K fd ps []) (hx : Passes CX X (fun _ _ _ => False)) (hg : Gl X x) (hm : X.mg x = some (.ref C)) (ha : PA X (e :: es) ta)
    (hdb : (x == ("__debug__" : Str)) = false := by decide) (he : starEach (e :: es) X.env = (false, eval e X.env) :: starEach es X.env := by rfl) (hpl : (backTo pos (starEach es X.env)).any (·.1) = false := by rfl) :
    L2N.PMk X (.Call (.Name x p) (e :: es) [] pos) (tMkO C sp [] ta) := by
  intro pins s σ H Q I h
  obtain ⟨nm, q, N, bs, bm, sn, sub, ab, col, dd, k0, k1, k2, k3, k5, hC, hbm⟩ := T.cls
  refine wpAny_Call_Name_kw (ld_glob I hg hm ?_ hdb)
  refine PySem.W.callWith_K (h₀ := X.base) I.ok.mod.kin T.kC (thn (ha.run pos pins s σ H _ I h) fun us s1 hs1 => ?_) he hpl
  obtain ⟨vs, H1, I1, r1, hz, q1⟩ := hs1
  refine ⟨I1.kIn, ?_⟩
  show wpAny _ _ (call (.ref C) us) _ _ _
  obtain ⟨hp, g, dr, tk, os⟩ := s1
  have hge : hp.objs.size ≤ hp.objs.size + 1 := Nat.le_succ _
  have q2 := q1 (hp.objs.size + 1) (I1.hok.fresh hge)
  have up : ∀ b o, hp.get? b = some o → ((hp.push (PySem.W.kdv_tup us)).push (PySem.HandSPX.excO C hp.objs.size)).get? b = some o := fun b o z => Heap.get?_push_of_some _ (Heap.get?_push_of_some _ z)
  have there : ((hp.push (PySem.W.kdv_tup us)).push (PySem.HandSPX.excO C hp.objs.size)).get? (hp.objs.size + 1) = some (PySem.HandSPX.excO C hp.objs.size) := by heap_get
  have I2 := I1.laid (t' := tk) (o := exo (hp.objs.size + 1) C none) up hge (exo_ok there)
  have r2 : Vals (V.ref (hp.objs.size + 1) :: (vs ++ [])) (Value.ref (hp.objs.size + 1) :: us) := .cons rfl (by rw [List.append_nil]; exact r1)
  have hl : (Value.ref (hp.objs.size + 1) :: us ++ []).length = ps.length := by
    rw [List.append_nil]
    exact (r2.length).symm.trans (F1.len _ _ _ _ q2)
  have hB := hb ⟨(hp.push (PySem.W.kdv_tup us)).push (PySem.HandSPX.excO C hp.objs.size), g, dr, tk, os⟩ (Value.ref (hp.objs.size + 1) :: us) I2.kIn hl
  rw [List.append_nil] at hB
  have hus : us.length ≤ sizeLine := by
    rw [← PySem.Paired.length r1, sizeLine_eq]
    omega
  refine wpAny_call (PySem.HandSPX.call_own PySem.F.excBase_ValueError (fun Y => PySem.HandSPX.refsVE_contains Y bm hbm) (I1.kIn _ _ hC) (PySem.W.looks_findIn I1.kIn iC) (fun self => PySem.W.bind_fn I1.kIn self tI) hus
    (codeAny_mono (F1.run _ X.stack _ _ ⟨Value.ref (hp.objs.size + 1) :: us, []⟩ (Value.ref (hp.objs.size + 1) :: us) _ _ (fun _ _ _ => False) (hr.make C us []) (I2.env0.make C us []) hB r2 q2) fun r s' hq' => ?_))
  cases r with
  | error er => exact hx pins σ _ _ er s' I2 hq'
  | ok fl =>
    cases fl with
    | ret u =>
      obtain ⟨v, H2, os2, bare2, un2, hok2, rv, ev, d, fs, ea, ed, hd1, q3⟩ := hq'
      subst ev
      obtain ⟨h2, g2, d2, t2, os'⟩ := s'
      refine ⟨rv, ?_⟩
      obtain ⟨t0, G, J, kG, ge, hoe, na⟩ := mk_end0 (d2 := d2) (t2 := t2) I1 hge up un2 hok2 os2 bare2 ea ed hd1
      exact ⟨_, _, _, ⟨G, g2, d2, t2, os'⟩, _, .ref C, some d, rfl, J, kG, ge, hoe, ⟨rfl, rfl, fun vs z => by cases z; rfl⟩, rfl, rfl, na, rfl, bare2, raises_own T.exC T.tyC, q3⟩
    | next => exact False.elim hq'
    | brk => exact False.elim hq'
    | cont => exact False.elim hq'
/-! ### isinstance of a caught error that has fields -/
def rIsD (K : PySem.W.Frag) (D a : Addr) (cls : Value) (d : Option Addr) : List V → Hp → VK → Prop := fun xs H Q => cls = .ref D ∧ ∃ (c : V) (cv : Value) (b : Bool) (dd : Addr) (fs : List (Str × V)), xs = [.ref a, c] ∧ (∀ u, RelV c u → u = cv) ∧ PySem.W.kitOne K (.ref D) cv = some b ∧ d = some dd ∧ H dd = some (.xd fs) ∧ Q (.bl b) H
theorem call_isD {X : Cx} {a D : Addr} {oe : Obj} {cls : Value} {d : Option Addr} {pn : List (Addr × Obj)} (C : ExcC X.K D) (hz : Zc cls d oe) (hf : ∃ vs, oe.data = .fields vs) : CallR (X.suite a ((a, oe) :: pn)) (.builtin "isinstance") (rIsD X.K D a cls d) := by
  intro pins s σ H xs us Q I r h
  obtain ⟨rfl, c, cv, b, dd, fs, rfl, hcv, e, rfl, hdd, q⟩ := h
  cases r with
  | cons rx rr =>
    cases rr with
    | cons rt rr =>
      cases rr
      cases rx
      have ec := hcv _ rt
      subst ec
      obtain ⟨ha, _⟩ := I.pin (a, oe) (List.mem_append_left _ List.mem_cons_self)
      obtain ⟨vs, hv⟩ := hf
      obtain ⟨mA, hns, _⟩ := (show ObjOk X.prog X.w H s.heap dd (.xd fs) from I.hok dd _ hdd)
      obtain ⟨od, ho, _⟩ := lookIn_ns hns
      have J : PySem.W.InstAt s.heap a oe D (some od) := ⟨ha, hz.1, by unfold PySem.W.notCls; rw [hv] <;> rfl, by rw [hz.2]; exact ho⟩
      have hcl : (PySem.W.clsIn X.K D).isSome = true := by
        obtain ⟨cd, hc, _⟩ := PySem.W.any_some C.hd
        rw [hc]
        rfl
      exact PySem.W.kia_one (PySem.W.kitx_exc hcl C.hg C.hk C.hs C.ha C.hn C.ht C.hm) I.kIn J e (fun z => nomatch z) fun tk => ⟨.bl b, H, I.kept (t' := tk) fun _ _ z => z, rfl, q⟩
/-! ### a def that lets errors out, their context told -/
theorem _root_.L2.Fun.okN {P : Program} {w : World} {K : PySem.W.Frag} {mg : Str → Option Value} {base : Heap} {x qual : Str} {st : Stmt} {f : Addr} {fd : FuncData} {N ps : List Str} {k : Nat} {sp : Sp} (F : L2.Fun K x qual st f fd) (S : FnScope N ps (defScope st)) (len : ∀ vs H Q E, sp vs H Q E → vs.length = ps.length)
    (hbody : ∀ (cdv : Value) (A : Around) (outer : List Env) (s : Shared) (H : Hp) (vs : List V) (Q : VK) (E : XK), Room k (A.deeper (envOfC qual (defScope st) s.heap.objs.size f cdv)) → sp vs H Q E →
      ∃ t, PSs (cxOf (L2N.CX P w) P w K mg base N qual (defScope st) f cdv A outer s H E) (defBody st) t ∧ t { nx := fun _ H' => Q .non H', rt := Q } (start N vs) H) : FnOk P w K mg base (L2N.CX P w) (k + 1) f fd ps sp := by
  obtain ⟨oc, od, kV, doc, pm, an, cdv, ct, osl, rfl, lk, hcd⟩ := F.ex
  exact fn_of lk hcd S len fun A outer s H vs Q E hr hsp => hbody cdv A outer s H vs Q E hr hsp
theorem takesN0 {X : Cx} : L2N.Takes X (fun _ _ _ _ => False) := fun _ _ ⟨_, _, _, _, _, _, _, _, _, _, _, _, _, _, _, _, w⟩ => w.elim
/-- a def that is called within an except suite -/
theorem _root_.L2.Fun.okH {CX : CXT} {P : Program} {w : World} {K : PySem.W.Frag} {mg : Str → Option Value} {base : Heap} {x qual : Str} {st : Stmt} {f : Addr} {fd : FuncData} {N ps : List Str} {k : Nat} {sp : Sp} (F : L2.Fun K x qual st f fd) (S : FnScope N ps (defScope st)) (len : ∀ vs H Q E, sp vs H Q E → vs.length = ps.length)
    (hbody : ∀ (cdv : Value) (A : Around) (outer : List Env) (s : Shared) (H : Hp) (vs : List V) (Q : VK) (E : XK) (p : Addr × Obj), L2H.RoomH k (A.deeper (envOfC qual (defScope st) s.heap.objs.size f cdv)) → sp vs H Q E →
      ∃ t, PSs (L2H.cxH CX P w K mg base N qual (defScope st) f cdv A outer s H E p) (defBody st) t ∧ t { nx := fun _ H' => Q .non H', rt := Q } (start N vs) H) : L2H.FnH P w K mg base CX (k + 1) f fd ps sp := by
  obtain ⟨oc, od, kV, doc, pm, an, cdv, ct, osl, rfl, lk, hcd⟩ := F.ex
  exact L2H.fn_ofH lk hcd S len fun A outer s H vs Q E p _ hr hsp => hbody cdv A outer s H vs Q E p hr hsp
end Bs
namespace K1
open PySem L2 TL Bs NdefX
local macro_rules | `(tactic| walk_at "wp") => `(tactic| simp only [tSeq, tAsg, gName, gTup, gCons, gNil, tVar, tC, tOp, tUn, rI, rI0, rU, tCB, tCons, tNil, tIfS, tRet, tRetN, tNext, tNever, test_eq, tB, tTup, tLst, tCall, tIf, tAndV, tOrV, tNotV, tNot, tAnd, tOr, rEq, rNe, scal_ii, scal_ss, scal_bb, dec_ii, dec_ss, dec_bb, for_eq, lc_eq, while_eq, tDrop, tYes, iList, iTup, iStr, iRng1, iRng2, RZ.iZipA, L2.start, rIxL, rIxT, rIxS, rSlS, cxK, tSl, tPart, tNoPart, tBM, tBM0, rAppend, rExtend, rRepS, gSub, rSetL, tAug, ipI, rAdd, rSub, tM1, tM0,
  List.map_cons, List.map_nil, List.length_cons, List.length_nil, List.cons_append, List.nil_append, List.append_nil, List.getElem?_cons_succ, List.getElem?_cons_zero, List.set_cons_succ, List.set_cons_zero, Nat.reduceAdd, Nat.reduceSub, List.replicate_succ, List.replicate_zero, wipe,
  Option.some.injEq, V.int.injEq, V.str.injEq, sgn_eq, V.ref.injEq, V.bl.injEq, exists_eq_left, exists_eq_left', exists_and_left, exists_eq_right, List.cons.injEq, and_true, true_and, ex_bl, ex_int, exists_const, Nat.zero_add, Int.toNat_natCast, Int.zero_add, and_assoc, reduceCtorEq, false_and, and_false, exists_false, or_false, false_or, eq_self, decide_true, decide_false, ite_true, ite_false, if_true, if_false, Bool.false_eq_true, Bool.not_true, Bool.not_false, ↓reduceIte])
def top (i : Nat) : Stmt := PySem.Challenge.pw_loopworks_k01_faults_of_characters.main.body.getD i (.Pass ⟨0, 0, 0, 0⟩)
abbrev PRG : Program := PySem.Challenge.pw_loopworks_k01_faults_of_characters
abbrev P : Program := PRG
def clsBody : Stmt → List Stmt
  | .ClassDef _ _ _ b _ _ _ _ _ _ _ => b
  | _ => []
abbrev s_init : Stmt := (clsBody (top 2)).getD 0 (.Pass ⟨0, 0, 0, 0⟩)
def nf (cc c : Addr) : NF := ⟨"__init__", "TextFault.__init__", defArgs s_init, defBody s_init, defScope s_init, [(("__class__" : Str), cc)], c⟩
/-- the class TextFault, all that is needed of it -/
structure TF (P : Program) (K : PySem.W.Frag) (mg : Str → Option Value) (C f cc c : Addr) (fd : FuncData) : Prop where
  g : mg "TextFault" = some (.ref C)
  g0 : PySem.W.nsIn K mainGlobals "TextFault" = some (some (.ref C))
  S : SupC P K mg (nf cc c) f cc C "self"
  T : OexC K C
  cd : PySem.W.codeIn K (.ref c) "TextFault.__init__" = true
  fd_ : ∃ (oc : Value) (od : Option Addr) (osl : Array (Option Value)) (doc pm ctv : Value), fd = (nf cc c).fd doc pm ctv ∧ K.lookup f = some (⟨oc, od, .func ((nf cc c).fd doc pm ctv), osl⟩ : Obj)
  iC : PySem.W.findIn K (.ref C) "__init__" = some (some (.ref f))
  tI : PySem.W.typeIn K (.ref f) = some (.type "function")
  n1 : PySem.W.findIn K (.ref C) "line" = some none
  n2 : PySem.W.findIn K (.ref C) "column" = some none
  n3 : PySem.W.findIn K (.ref C) "reason" = some none
  bd : Binds K fd ["self", "line", "column", "reason"] []
theorem tf_mk {K : PySem.W.Frag} {h : Heap} {mg : Str → Option Value} (X : K.In h) (G : h.Ns mainGlobals mg)
    {C f cc c : Addr} {oc doc pm ctv ccl cl : Value} {od cdd cld : Option Addr} {osl ccs csl : Array (Option Value)} {vs : Array Value} {file : Str} {tf : Tok} {cd : ClassData}
    {nm q : Str} {N : Addr} {bs bm : List Value} {sn : List Str} {sub : List Value} {ab : Bool} {col : Option Bool} {dd : Option Addr} {k0 k1 k2 k3 k5 : Option Value}
    (a1 : PySem.W.nsIn K mainGlobals "TextFault" = some (some (.ref C))) (a2 : PySem.W.findIn K (.ref C) "__init__" = some (some (.ref f)))
    (a3 : K.lookup f = some (⟨oc, od, .func ((nf cc c).fd doc pm ctv), osl⟩ : Obj)) (a4 : K.lookup c = some (⟨ccl, cdd, .fields vs, ccs⟩ : Obj)) (a5 : vs[2]? = some (.str file tf))
    (a6 : (((PySem.Challenge.pw_loopworks_k01_faults_of_characters).main.file : Str) == file) = true) (a7 : K.lookup cc = some (⟨cl, cld, .cell (some (.ref C)), csl⟩ : Obj))
    (a8 : PySem.W.clsIn K C = some cd) (a9 : PySem.W.mroIn K C (.ref C) = some true) (b1 : PySem.W.nsIn K mainGlobals "super" = some none) (b2 : PySem.W.nsIn K PySem.cStatics "thirdparty.any" = some none)
    (b3 : PySem.W.ks_superIn K C C "__init__" = some (some (.builtin "ValueError.__init__"))) (b4 : PySem.W.subIn K (.ref C) (.type "ValueError") = some true)
    (b5 : K.lookup C = some (excClassObj nm q C N bs bm true sn sub ab col dd k0 k1 k2 k3 k5 "ValueError.__new__")) (b6 : PySem.HandSPX.refsVE bm = true)
    (b7 : PySem.W.findIn K (.ref C) "__setattr__" = some (some (.builtin "object.__setattr__"))) (b8 : PySem.W.subIn K (.ref C) (.type "BaseException") = some true) (b9 : PySem.W.typeIn K (.ref C) = some (.type "type")) (c1 : PySem.W.keepIn K (.ref C) = true)
    (c2 : PySem.W.codeIn K (.ref c) "TextFault.__init__" = true) (c3 : PySem.W.typeIn K (.ref f) = some (.type "function")) (c4 : PySem.W.findIn K (.ref C) "line" = some none) (c5 : PySem.W.findIn K (.ref C) "column" = some none) (c6 : PySem.W.findIn K (.ref C) "reason" = some none) :
    TF PySem.Challenge.pw_loopworks_k01_faults_of_characters K mg C f cc c ((nf cc c).fd doc pm ctv) :=
by
  refine ⟨PySem.W.mg_of X G a1, a1, ⟨⟨_, _, _, _, _, _, a3⟩, ⟨_, rfl, rfl⟩, ⟨_, _, _, _, _, _, a4, a5, a6⟩, rfl, ⟨_, _, _, a7⟩, ⟨_, a8⟩, a9, PySem.W.mg_none_of X G b1, (show List.lookup ("super" : Str) (defScope s_init).names = some .globalImplicit by decide +kernel), (show List.lookup ("__class__" : Str) (defScope s_init).names = some .free by decide +kernel), (show List.lookup ("self" : Str) (defScope s_init).names = some .local by decide +kernel), by decide +kernel, b2, b3, b4⟩,
    ⟨⟨_, _, _, _, _, _, _, _, _, _, _, _, _, _, _, b5, b6⟩, b7, b8, b9, c1⟩, c2, ⟨_, _, _, _, _, _, rfl, a3⟩, a2, c3, c4, c5, c6, ?_⟩
  exact .all fun us hl => match us, hl with
    | [_, _, _, _], _ => rfl
/-- .. and of what is asked of it in a suite -/
structure TX (K : PySem.W.Frag) (mg : Str → Option Value) (C f cc c : Addr) (fd : FuncData) (W L : Addr) : Prop where
  tf : TF PRG K mg C f cc c fd
  gW : mg "WorkError" = some (.ref W)
  gT : mg "TooLarge" = some (.ref L)
  bVE : mg "ValueError" = none
  kW : PySem.W.kitOne K (.ref C) (.ref W) = some true
  kV : PySem.W.kitOne K (.ref C) (.type "ValueError") = some true
  kT : PySem.W.kitOne K (.ref C) (.ref L) = some false
  ec : ExcC K C
  xx : XfC K C
  em : PySem.W.exmOne K (.ref C) (.ref C) = some true
theorem kit_ref {K : PySem.W.Frag} {t : Value} {C : Addr} {b : Bool} {cd : ClassData} (h1 : (t == Value.ref C) = false) (h2 : PySem.W.clsIn K C = some cd) (h3 : PySem.W.typeIn K (.ref C) = some (.type "type")) (h4 : PySem.W.subIn K t (.ref C) = some b) : PySem.W.kitOne K t (.ref C) = some b := by
  unfold PySem.W.kitOne
  rw [h1, if_neg (by decide)]
  show (if ((PySem.W.clsIn K C).isSome && PySem.W.typeIn K (.ref C) == some (.type "type")) = true then PySem.W.subIn K t (.ref C) else none) = some b
  rw [h2, h3, if_pos (show ((some cd).isSome && some (Value.type "type") == some (Value.type "type")) = true from (show (true && some (Value.type "type") == some (Value.type "type")) = true by decide)), h4]
theorem kit_VE {K : PySem.W.Frag} {C : Addr} (h : PySem.W.subIn K (.ref C) (.type "ValueError") = some true) : PySem.W.kitOne K (.ref C) (.type "ValueError") = some true := by
  unfold PySem.W.kitOne
  rw [show (Value.ref C == Value.type "ValueError") = false from rfl, if_neg (by decide)]
  show (if PySem.W.kitMeta "ValueError" = true then PySem.W.subIn K (.ref C) (.type "ValueError") else none) = some true
  rw [show PySem.W.kitMeta "ValueError" = true by decide +kernel, if_pos rfl, h]
theorem tx_mk {K : PySem.W.Frag} {h : Heap} {mg : Str → Option Value} {C f cc c W L : Addr} {fd : FuncData} {cW cL : ClassData} (tf : TF PRG K mg C f cc c fd) (X : K.In h) (G : h.Ns mainGlobals mg)
    (d1 : PySem.W.nsIn K mainGlobals "WorkError" = some (some (.ref W))) (d2 : PySem.W.nsIn K mainGlobals "TooLarge" = some (some (.ref L))) (d3 : PySem.W.nsIn K mainGlobals "ValueError" = some none)
    (f1 : (Value.ref C == Value.ref W) = false) (f2 : PySem.W.clsIn K W = some cW) (f3 : PySem.W.typeIn K (.ref W) = some (.type "type")) (f4 : PySem.W.subIn K (.ref C) (.ref W) = some true)
    (f5 : (Value.ref C == Value.ref L) = false) (f6 : PySem.W.clsIn K L = some cL) (f7 : PySem.W.typeIn K (.ref L) = some (.type "type")) (f8 : PySem.W.subIn K (.ref C) (.ref L) = some false) (f9 : PySem.W.subIn K (.ref C) (.ref C) = some true)
    (d7 : PySem.W.findIn K (.ref C) "__getattribute__" = some (some (.builtin "BaseException.__getattribute__"))) (d8 : PySem.W.findIn K (.ref C) "__getattr__" = some none) (d9 : PySem.W.subIn K (.ref C) (.type "BaseException") = some true)
    (e1 : PySem.W.hasDictIn K C = true) (e2 : PySem.W.findIn K (.ref C) "__class__" = some (some (.builtin "object.__class__"))) (e3 : PySem.W.specialIn K (.builtin "object.__class__") "__get__" = some (some (.builtin "getset_descriptor.__get__")))
    (e4 : PySem.W.takesIn K (.builtin "object.__class__") = some true) (e5 : PySem.W.mroIn K C (.type "object") = some true) : TX K mg C f cc c fd W L :=
  ⟨tf, PySem.W.mg_of X G d1, PySem.W.mg_of X G d2, PySem.W.mg_none_of X G d3, kit_ref f1 f2 f3 f4, kit_VE tf.S.sVE, kit_ref f5 f6 f7 f8, ⟨d7, d8, d9, e1, e2, e3, e4, e5⟩, ⟨d7, d8, d9, e1⟩, PySem.W.exm_ref d9 e1 tf.T.tyC f9⟩
/-- an error told with its place and reason: what __init__ leaves -/
def sp_init (C : Addr) : Sp := fun vs H Q _ => ∃ (a : Addr) (l c : Nat) (r : Str), vs = [.ref a, .int (l : Int), .int (c : Int), .str r] ∧ H a = some (exo a C none) ∧ l < 1000000000 ∧ c < 1000000000 ∧ r.length ≤ 1000 ∧
  ∀ H' d, d ≠ a → H d = none → H' a = some (exo a C (some d)) → H' d = some (exd d [("reason", .str r), ("column", .int (c : Int)), ("line", .int (l : Int))]) → (∀ b, b ≠ a → b ≠ d → H' b = H b) → Q .non H'
theorem ok_init {P : Program} {w : World} {K : PySem.W.Frag} {mg : Str → Option Value} {base : Heap} {C f cc c : Addr} {fd : FuncData} (T : TF P K mg C f cc c fd) : FnOk P w K mg base CX0 1 f fd ["self", "line", "column", "reason"] (sp_init C) := by
  refine' fn_super (N := ["self", "line", "column", "reason", "__class__"]) (F := nf cc c) T.S T.T T.cd (nscope_by (show nscB ["self", "line", "column", "reason", "__class__"] ["self", "line", "column", "reason"] ["__class__"] (defScope s_init) = true by decide +kernel)) T.fd_ rfl ?hb ?len ?he ?hpl ?hc ?hi ?hsw ?hrun
  (case hb => exact rfl)
  (case he => exact fun _ => rfl)
  (case hpl => exact fun _ => rfl)
  (case hc => exact fun _ => rfl)
  (case hi => exact fun _ => rfl)
  (case hsw => exact fun _ => rfl)
  · rintro vs H Q E ⟨a, l, c, r, rfl, _⟩
    rfl
  · rintro A outer s H vs Q E hr ⟨a, l, c, r, rfl, ea, hl, hc, hrl, q⟩
    refine ⟨_, _, a, pa_cons (pe_joined (.cons pe_str (.cons (pe_fmt (pv 1)) (.cons pe_str (.cons (pe_fmt (pv 2)) (.cons pe_str (.cons (pe_fmt (pv 3)) .nil))))))) pa_nil, pss_cons (ps_ost (pv 0) (pv 1)) (pss_cons (ps_ost (pv 0) (pv 2)) (pss_one (ps_ost (pv 0) (pv 3)))), rfl, ea, ?_⟩
    show tCons _ tNil [some (V.ref a), some (V.int (l : Int)), some (V.int (c : Int)), some (V.str r), some (V.ref C)] H _
    rw [show startF ["self", "line", "column", "reason", "__class__"] [V.ref a, V.int (l : Int), V.int (c : Int), V.str r] [some (V.ref C)] = [some (V.ref a), some (V.int (l : Int)), some (V.int (c : Int)), some (V.str r), some (V.ref C)] from rfl]
    simp only [tCons, tNil, tJs, tFmt, tC, tVar, tSeq, tOst, List.getElem?_cons_succ, List.getElem?_cons_zero, Option.some.injEq, exists_eq_left', V.str.injEq, V.int.injEq, reduceCtorEq, false_and, exists_false, false_or, or_false, exists_eq_left, List.length_cons, List.length_nil]
    have e1 : (Str.ofString "line ").length = 5 := by decide +kernel
    have e2 : (Str.ofString ", column ").length = 9 := by decide +kernel
    have e3 : (Str.ofString ": ").length = 2 := by decide +kernel
    have e0 : Str.empty.length = 0 := rfl
    have n1 : (Str.ofString (toString (l : Int))).length ≤ 9 := by rw [len_tl, tl_num]; exact numL_len (by decide) hl
    have n2 : (Str.ofString (toString (c : Int))).length ≤ 9 := by rw [len_tl, tl_num]; exact numL_len (by decide) hc
    have g1 : ∀ n : Nat, n < 1000000000 → ((n : Nat) : Int).natAbs.log2 < 1920 := fun n h => Nat.lt_of_le_of_lt (log2_le_of (a := 34) (by rw [Int.natAbs_natCast]; exact Nat.lt_trans h (by decide))) (by decide)
    have big : ∀ n : Nat, n ≤ 2000 → n ≤ sizeLine := fun n h => Nat.le_trans h (by decide)
    simp only [len_app, e1, e2, e3, e0]
    refine ⟨by decide, g1 l hl, big _ (by omega), big _ (by omega), g1 c hc, big _ (by omega), big _ (by omega), big _ (by omega), big _ (by omega), by decide, ea, a, C, rfl, T.T, T.n1, .inl ⟨ea, fun d hd hda => ?_⟩⟩
    have h1a : upd (upd H d (exd d [("line", V.int (l : Int))])) a (exo a C (some d)) a = some (exo a C (some d)) := upd_same
    have h1d : upd (upd H d (exd d [("line", V.int (l : Int))])) a (exo a C (some d)) d = some (exd d [("line", V.int (l : Int))]) := by rw [upd_ne hda]; exact upd_same
    refine ⟨a, C, rfl, T.T, T.n2, .inr ⟨d, _, h1a, h1d, (show 1 ≤ 900 by decide), a, C, rfl, T.T, T.n3, .inr ⟨d, _, by rw [upd_ne hda.symm]; exact h1a, upd_same, (show 2 ≤ 900 by decide), q _ d hda hd ?_ upd_same fun b hb hbd => ?_⟩⟩⟩
    · rw [upd_ne hda.symm, upd_ne hda.symm]
      exact h1a
    · rw [upd_ne hbd, upd_ne hbd, upd_ne hb, upd_ne hbd]
abbrev s_read_signs : Stmt := top 11
theorem sc_read_signs : FnScope ["text", "signs", "at", "line", "line_start", "kind", "written", "value"] ["text"] (defScope s_read_signs) := ⟨rfl, rfl, rfl, by decide +kernel, rfl, by decide +kernel, by decide +kernel⟩
abbrev s_sign_at : Stmt := top 12
theorem sc_sign_at : FnScope ["text", "at", "line", "column", "length", "symbol"] ["text", "at", "line", "column"] (defScope s_sign_at) := ⟨rfl, rfl, rfl, by decide +kernel, rfl, by decide +kernel, by decide +kernel⟩
abbrev s_run_length : Stmt := top 13
theorem sc_run_length : FnScope ["text", "at", "characters", "behind"] ["text", "at", "characters"] (defScope s_run_length) := ⟨rfl, rfl, rfl, by decide +kernel, rfl, by decide +kernel, by decide +kernel⟩
abbrev s_law_cell : Stmt := top 15
theorem sc_law_cell : FnScope ["_law_script", "_law_k"] ["_law_script", "_law_k"] (defScope s_law_cell) := ⟨rfl, rfl, rfl, by decide +kernel, rfl, by decide +kernel, by decide +kernel⟩
abbrev s_law_draws : Stmt := top 16
theorem sc_law_draws : FnScope ["_law_cell_here", "_law_count", "_law_number", "_law_great", "_law_found", "_law_k", "_law_mixed"] ["_law_cell_here", "_law_count"] (defScope s_law_draws) := ⟨rfl, rfl, rfl, by decide +kernel, rfl, by decide +kernel, by decide +kernel⟩
abbrev s_law_stream : Stmt := top 17
theorem sc_law_stream : FnScope ["_law_script", "_law_first", "_law_count", "_law_found", "_law_k"] ["_law_script", "_law_first", "_law_count"] (defScope s_law_stream) := ⟨rfl, rfl, rfl, by decide +kernel, rfl, by decide +kernel, by decide +kernel⟩
abbrev s_law_next : Stmt := top 18
theorem sc_law_next : FnScope ["_law_stream_here", "_law_many", "_law_digits", "_law_place", "_law_value"] ["_law_stream_here", "_law_many"] (defScope s_law_next) := ⟨rfl, rfl, rfl, by decide +kernel, rfl, by decide +kernel, by decide +kernel⟩
abbrev s_law_word : Stmt := top 19
theorem sc_law_word : FnScope ["_law_stream_here", "_law_index", "_law_letters", "_law_size", "_law_text", "_law_k", "_law_place", "_law_word_here"] ["_law_stream_here", "_law_index"] (defScope s_law_word) := ⟨rfl, rfl, rfl, by decide +kernel, rfl, by decide +kernel, by decide +kernel⟩
abbrev s_law_is_integer : Stmt := top 20
theorem sc_law_is_integer : FnScope ["_law_actual"] ["_law_actual"] (defScope s_law_is_integer) := ⟨rfl, rfl, rfl, by decide +kernel, rfl, by decide +kernel, by decide +kernel⟩
abbrev s_law_plain : Stmt := top 21
theorem sc_law_plain : FnScope ["_law_stream_here", "_law_count", "_law_text", "_law_k", "_law_kind"] ["_law_stream_here", "_law_count"] (defScope s_law_plain) := ⟨rfl, rfl, rfl, by decide +kernel, rfl, by decide +kernel, by decide +kernel⟩
abbrev s_law_wrong : Stmt := top 22
theorem sc_law_wrong : FnScope ["_law_stream_here", "_law_kind", "_law_chars", "_law_size"] ["_law_stream_here"] (defScope s_law_wrong) := ⟨rfl, rfl, rfl, by decide +kernel, rfl, by decide +kernel, by decide +kernel⟩
abbrev s_law_place_after : Stmt := top 23
theorem sc_law_place_after : FnScope ["_law_text", "_law_line", "_law_column", "_law_char"] ["_law_text"] (defScope s_law_place_after) := ⟨rfl, rfl, rfl, by decide +kernel, rfl, by decide +kernel, by decide +kernel⟩
abbrev s_law_fault : Stmt := top 24
theorem sc_law_fault : FnScope ["_law_text", "e"] ["_law_text"] (defScope s_law_fault) := ⟨rfl, rfl, rfl, by decide +kernel, rfl, by decide +kernel, by decide +kernel⟩
abbrev s_law : Stmt := top 25
theorem sc_law : FnScope ["_law_script", "_law_stream_here", "_law_before", "_law_wrong_here", "_law_behind", "_law_line", "_law_column"] ["_law_script"] (defScope s_law) := ⟨rfl, rfl, rfl, by decide +kernel, rfl, by decide +kernel, by decide +kernel⟩
structure Ad where
  f_read_signs : Addr
  f_sign_at : Addr
  f_run_length : Addr
  f_law_cell : Addr
  f_law_draws : Addr
  f_law_stream : Addr
  f_law_next : Addr
  f_law_word : Addr
  f_law_is_integer : Addr
  f_law_plain : Addr
  f_law_wrong : Addr
  f_law_place_after : Addr
  f_law_fault : Addr
  f_law : Addr
  d_read_signs : FuncData
  d_sign_at : FuncData
  d_run_length : FuncData
  d_law_cell : FuncData
  d_law_draws : FuncData
  d_law_stream : FuncData
  d_law_next : FuncData
  d_law_word : FuncData
  d_law_is_integer : FuncData
  d_law_plain : FuncData
  d_law_wrong : FuncData
  d_law_place_after : FuncData
  d_law_fault : FuncData
  d_law : FuncData
  t_SYMBOLS : Addr
  t_DIGITS : Tok
  t_LONGEST_NUMBER : Tok
  t_LETTERS : Tok
  t_LONGEST_WORD : Tok
  t_WORD_CHARACTERS : Tok
  xC : Addr
  xf : Addr
  xcc : Addr
  xc : Addr
  xd : FuncData
  xW : Addr
  xT : Addr
structure Txt (K : PySem.W.Frag) (mg : Str → Option Value) (A : Ad) : Prop where
  tf : TF PRG K mg A.xC A.xf A.xcc A.xc A.xd
  gW : mg "WorkError" = some (.ref A.xW)
  gT : mg "TooLarge" = some (.ref A.xT)
  bVE : mg "ValueError" = none
  kW : PySem.W.kitOne K (.ref A.xC) (.ref A.xW) = some true
  kV : PySem.W.kitOne K (.ref A.xC) (.type "ValueError") = some true
  kT : PySem.W.kitOne K (.ref A.xC) (.ref A.xT) = some false
  ec : ExcC K A.xC
  xx : XfC K A.xC
  em : PySem.W.exmOne K (.ref A.xC) (.ref A.xC) = some true
  b_len : mg "len" = none
  b_int : mg "int" = none
  b_range : mg "range" = none
  b_abs : mg "abs" = none
  b_isinstance : mg "isinstance" = none
  b_bool : mg "bool" = none
  b_str : mg "str" = none
  g_read_signs : mg "read_signs" = some (.ref A.f_read_signs)
  F_read_signs : Fun K "read_signs" "read_signs" s_read_signs A.f_read_signs A.d_read_signs
  B_read_signs : Binds K A.d_read_signs ["text"] []
  g_sign_at : mg "sign_at" = some (.ref A.f_sign_at)
  F_sign_at : Fun K "sign_at" "sign_at" s_sign_at A.f_sign_at A.d_sign_at
  B_sign_at : Binds K A.d_sign_at ["text", "at", "line", "column"] []
  g_run_length : mg "run_length" = some (.ref A.f_run_length)
  F_run_length : Fun K "run_length" "run_length" s_run_length A.f_run_length A.d_run_length
  B_run_length : Binds K A.d_run_length ["text", "at", "characters"] []
  g_law_cell : mg "_law_cell" = some (.ref A.f_law_cell)
  F_law_cell : Fun K "_law_cell" "_law_cell" s_law_cell A.f_law_cell A.d_law_cell
  B_law_cell : Binds K A.d_law_cell ["_law_script", "_law_k"] []
  g_law_draws : mg "_law_draws" = some (.ref A.f_law_draws)
  F_law_draws : Fun K "_law_draws" "_law_draws" s_law_draws A.f_law_draws A.d_law_draws
  B_law_draws : Binds K A.d_law_draws ["_law_cell_here", "_law_count"] []
  g_law_stream : mg "_law_stream" = some (.ref A.f_law_stream)
  F_law_stream : Fun K "_law_stream" "_law_stream" s_law_stream A.f_law_stream A.d_law_stream
  B_law_stream : Binds K A.d_law_stream ["_law_script", "_law_first", "_law_count"] []
  g_law_next : mg "_law_next" = some (.ref A.f_law_next)
  F_law_next : Fun K "_law_next" "_law_next" s_law_next A.f_law_next A.d_law_next
  B_law_next : Binds K A.d_law_next ["_law_stream_here", "_law_many"] []
  g_law_word : mg "_law_word" = some (.ref A.f_law_word)
  F_law_word : Fun K "_law_word" "_law_word" s_law_word A.f_law_word A.d_law_word
  B_law_word : Binds K A.d_law_word ["_law_stream_here", "_law_index"] []
  g_law_is_integer : mg "_law_is_integer" = some (.ref A.f_law_is_integer)
  F_law_is_integer : Fun K "_law_is_integer" "_law_is_integer" s_law_is_integer A.f_law_is_integer A.d_law_is_integer
  B_law_is_integer : Binds K A.d_law_is_integer ["_law_actual"] []
  g_law_plain : mg "_law_plain" = some (.ref A.f_law_plain)
  F_law_plain : Fun K "_law_plain" "_law_plain" s_law_plain A.f_law_plain A.d_law_plain
  B_law_plain : Binds K A.d_law_plain ["_law_stream_here", "_law_count"] []
  g_law_wrong : mg "_law_wrong" = some (.ref A.f_law_wrong)
  F_law_wrong : Fun K "_law_wrong" "_law_wrong" s_law_wrong A.f_law_wrong A.d_law_wrong
  B_law_wrong : Binds K A.d_law_wrong ["_law_stream_here"] []
  g_law_place_after : mg "_law_place_after" = some (.ref A.f_law_place_after)
  F_law_place_after : Fun K "_law_place_after" "_law_place_after" s_law_place_after A.f_law_place_after A.d_law_place_after
  B_law_place_after : Binds K A.d_law_place_after ["_law_text"] []
  g_law_fault : mg "_law_fault" = some (.ref A.f_law_fault)
  F_law_fault : Fun K "_law_fault" "_law_fault" s_law_fault A.f_law_fault A.d_law_fault
  B_law_fault : Binds K A.d_law_fault ["_law_text"] []
  g_law : mg "law" = some (.ref A.f_law)
  F_law : Fun K "law" "law" s_law A.f_law A.d_law
  B_law : Binds K A.d_law ["_law_script"] []
  g_SYMBOLS : mg "SYMBOLS" = some (.ref A.t_SYMBOLS)
  q_SYMBOLS : ∀ H : Hp, SqT K H A.t_SYMBOLS [.str "<=", .str ">=", .str "==", .str "||", .str ",", .str ";", .str ":", .str "[", .str "]", .str "(", .str ")", .str "{", .str "}", .str "=", .str "+", .str "-", .str "*", .str "<", .str ">"]
  g_DIGITS : mg "DIGITS" = some (.str "0123456789" A.t_DIGITS)
  g_LONGEST_NUMBER : mg "LONGEST_NUMBER" = some (.int 9 A.t_LONGEST_NUMBER)
  g_LETTERS : mg "LETTERS" = some (.str "abcdefghijklmnopqrstuvwxyzABCDEFGHIJKLMNOPQRSTUVWXYZ" A.t_LETTERS)
  g_LONGEST_WORD : mg "LONGEST_WORD" = some (.int 20 A.t_LONGEST_WORD)
  g_WORD_CHARACTERS : mg "WORD_CHARACTERS" = some (.str "abcdefghijklmnopqrstuvwxyzABCDEFGHIJKLMNOPQRSTUVWXYZ0123456789_" A.t_WORD_CHARACTERS)
section
variable {w : World} {K : PySem.W.Frag} {mg : Str → Option Value} {base : Heap} {A : Ad}
def sp_law_cell (K : PySem.W.Frag) : Sp := fun vs H Q _ => ∃ (l : Addr) (ns : List Int) (j : Nat), vs = [V.ref l, V.int (j : Nat)] ∧ SqL K H l (ns.map V.int) ∧ Q (.int (L2.cellOf ns j)) H
def sp_law_draws (K : PySem.W.Frag) : Sp := fun vs H Q _ => ∃ c : Int, vs = [.int c, .int 12] ∧ ∀ H' t (ds : List Int), Same H H' → H' t = some (.lst (ds.map V.int)) → H t = none → ds.length = 12 → Q (.ref t) H'
def sp_law_stream (K : PySem.W.Frag) : Sp := fun vs H Q _ => ∃ (l : Addr) (ns : List Int) (first count : Nat), vs = [.ref l, .int (first : Int), .int (count : Int)] ∧ SqL K H l (ns.map V.int) ∧ 1 ≤ count ∧ count ≤ 100 ∧
  ∀ H' st d p, Same H H' → Stm H' st d p → H p = none → Q (.ref st) H'
def sp_law_next (K : PySem.W.Frag) : Sp := fun vs H Q _ => ∃ (st d p : Addr) (m : Int), vs = [.ref st, .int m] ∧ Stm H st d p ∧ 0 < m ∧ ∀ H' (v : Int), Stp p H H' → 0 ≤ v → v < m → Q (.int v) H'
theorem ok_law_cell (T : Txt K mg A) : FnOk P w K mg base CX0 1 A.f_law_cell A.d_law_cell ["_law_script", "_law_k"] (sp_law_cell K) := by
  refine T.F_law_cell.ok sc_law_cell (fun vs H Q E h => ?_) (fun cdv A' outer s H vs Q E hr h => ?_)
  · obtain ⟨a, ns, j, rfl, _⟩ := h
    rfl
  · obtain ⟨a, ns, j, rfl, hS, q⟩ := h
    refine ⟨_, (pss_cons (ps_if (pt_cmpR op_lt (pv 1) (pe_callB call_len_seq (by rfl) T.b_len (by decide +kernel) (pa_cons (pv 0) pa_nil)) (nomark _)) 
      (pss_one (ps_ret (pe_callTy call_intI (by rfl) T.b_int (by decide +kernel) (pa_cons (pe_ix ix_list (pv 0) (pv 1) (fun _ _ => rfl)) pa_nil)))) pss_nil) 
    (pss_one (ps_ret pe_int))), ?_⟩
    walk_at "wp"
    refine ⟨_, .inl hS, ?_⟩
    by_cases hj : j < ns.length
    · rw [if_pos (by rw [List.length_map]; exact decide_eq_true (by omega))]
      refine ⟨_, hS, _, atI_cell hj, _, rfl, q⟩
    · rw [if_neg (by rw [List.length_map, decide_eq_true_eq]; omega)]
      rw [cell_out hj] at q
      exact q
theorem ok_law_draws (T : Txt K mg A) : FnOk P w K mg base CX0 1 A.f_law_draws A.d_law_draws ["_law_cell_here", "_law_count"] (sp_law_draws K) := by
  refine T.F_law_draws.ok sc_law_draws (fun vs H Q E h => ?_) (fun cdv A' outer s H vs Q E hr h => ?_)
  · obtain ⟨c, rfl, _⟩ := h
    rfl
  · obtain ⟨c, rfl, q⟩ := h
    refine ⟨_, (pss_cons (ps_set (i := 2) sc_law_draws.nd rfl (Or.inl rfl) (pe_callB call_abs (by rfl) T.b_abs (by decide +kernel) (pa_cons (pe_callTy call_intI (by rfl) T.b_int (by decide +kernel) (pa_cons (pv 0) pa_nil)) pa_nil))) 
    (pss_cons (ps_set (i := 3) sc_law_draws.nd rfl (Or.inl rfl) (pe_cmpR op_ge (pv 2) (pe_op op_pow pe_int pe_int) (nomark _))) 
    (pss_cons (ps_set (i := 4) sc_law_draws.nd rfl (Or.inl rfl) (pe_lst pa_nil)) 
    (pss_cons (ps_for PassesOwn.never rfl (pi_range1 (by rfl) T.b_range (pa_cons pe_int pa_nil)) (pg_name (i := 5) sc_law_draws.nd rfl (Or.inl rfl)) 
      (pss_one (ps_if (PW.pt (pw_and (pt_cmpR op_lt (pv 5) (pv 1) (nomark _)) (pw_and1 (pt_val (pv 3))))) 
        (pss_cons (ps_expr (pe_bm PySem.F.plainAttrs_list PySem.F.slot_list_append PySem.F.type_list_append mt_append (pv 4) (pa_cons (pe_op op_mod (pv 2) pe_int) pa_nil))) 
        (pss_one (ps_set (i := 2) sc_law_draws.nd rfl (Or.inl rfl) (pe_op op_fdiv (pv 2) pe_int)))) 
        (pss_one (ps_if (pt_cmpR op_lt (pv 5) (pv 1) (nomark _)) 
          (pss_cons (ps_set (i := 6) sc_law_draws.nd rfl (Or.inl rfl) (pe_op op_mod (pe_op op_add (pe_op op_add (pe_op op_mul (pe_callTy call_intI (by rfl) T.b_int (by decide +kernel) (pa_cons (pv 2) pa_nil)) pe_int) (pe_op op_mul (pv 5) pe_int)) pe_int) pe_int)) 
          (pss_cons (ps_set (i := 6) sc_law_draws.nd rfl (Or.inl rfl) (pe_op op_mod (pe_op op_add (pe_op op_add (pe_op op_mul (pe_callTy call_intI (by rfl) T.b_int (by decide +kernel) (pa_cons (pv 6) pa_nil)) (pe_callTy call_intI (by rfl) T.b_int (by decide +kernel) (pa_cons (pv 6) pa_nil))) (pe_op op_mul (pv 5) pe_int)) pe_int) pe_int)) 
          (pss_one (ps_expr (pe_bm PySem.F.plainAttrs_list PySem.F.slot_list_append PySem.F.type_list_append mt_append (pv 4) (pa_cons (pe_op op_mod (pe_callTy call_intI (by rfl) T.b_int (by decide +kernel) (pa_cons (pv 6) pa_nil)) pe_int) pa_nil)))))) pss_nil))))) 
    (pss_one (ps_ret (pv 4))))))), ?_⟩
    walk_at "wp"
    refine ⟨⟨by decide, by decide, by decide⟩, Nat.zero_le _, fun p np => ⟨by decide, by decide, ?_⟩⟩
    obtain ⟨Pv, hPv⟩ : ∃ Pv : Nat → St → Hp → Prop, ∀ i σ H', Pv i σ H' ↔ ∃ (num : Int) (g : Bool) (ds : List Int) (v5 v6 : Option V), σ = [some (V.int c), some (V.int 12), some (V.int num), some (V.bl g), some (V.ref p), v5, v6] ∧ (g = false → 0 ≤ num ∧ num < 1000000000000000000) ∧
      Same H H' ∧ H' p = some (.lst (ds.map V.int)) ∧ ds.length = min i 12 := ⟨_, fun _ _ _ => Iff.rfl⟩
    have e18 : (10 : Int) ^ Int.toNat 18 = 1000000000000000000 := by decide
    refine loop_it (walk_range0 (n := 60)) Pv ((hPv _ _ _).mpr ⟨_, _, [], none, none, rfl, fun hg => ?_, same_upd np, upd_same, rfl⟩) (fun _ _ _ _ _ => trivial) ?_ ?_
    · rw [e18, decide_eq_false_iff_not] at hg
      constructor
      · split <;> omega
      · omega
    · intro i x σ H1 H2 hi pw y
      obtain ⟨num, g, ds, v5, v6, rfl, hg, s1, e1, hl⟩ := (hPv _ _ _).mp pw
      obtain ⟨rfl, rfl⟩ := y
      walk_at "wp"
      have sz : ∀ z : V, (ds.map V.int).length < sizeLine := fun _ => small1000 (by rw [List.length_map]; omega)
      have ty : tyV K "list" (V.ref p) H2 := .inl ⟨rfl, _, SqL.of e1⟩
      have fin : ∀ (num' : Int) (v v5' v6' : Option V) (z : Int), i < 12 → (g = false → 0 ≤ num' ∧ num' < 1000000000000000000) → Pv (i + 1) [some (V.int c), some (V.int 12), some (V.int num'), some (V.bl g), some (V.ref p), v5', v6'] (upd H2 p (.lst (ds.map V.int ++ [V.int z]))) := fun num' v v5' v6' z h12 hg' =>
        (hPv _ _ _).mpr ⟨num', g, ds ++ [z], v5', v6', rfl, hg', fun b o e => by rw [upd_ne (ne_of_none e np)]; exact s1 _ _ e, by rw [upd_same, List.map_append]; rfl, by rw [List.length_append, List.length_singleton]; omega⟩
      by_cases h12 : i < 12
      · rw [show decide (((i : Nat) : Int) < 12) = true from decide_eq_true (by omega)]
        cases g with
        | true =>
          walk_at "wp"
          exact ⟨ty, by decide, _, e1, sz .non, ⟨by decide, by decide⟩, fin _ none _ _ _ h12 (fun z => by cases z)⟩
        | false =>
          walk_at "wp"
          have hn := hg rfl
          refine ⟨.inr ⟨by decide, by decide⟩, .inr ⟨by decide, by decide⟩, by decide, ?_⟩
          have m0 := Int.emod_nonneg (num * 48271 + (i : Int) * 69621 + 11) (show (2147483647 : Int) ≠ 0 by decide)
          have m1 := Int.emod_lt_of_pos (num * 48271 + (i : Int) * 69621 + 11) (show (0 : Int) < 2147483647 by decide)
          refine ⟨.inl ⟨by omega, by omega⟩, .inr ⟨by decide, by decide⟩, by decide, ty, by decide, _, e1, sz .non, ?_⟩
          exact fin _ none _ _ _ h12 (fun _ => hn)
      · rw [show decide (((i : Nat) : Int) < 12) = false from decide_eq_false (by omega)]
        walk_at "wp"
        exact (hPv _ _ _).mpr ⟨num, g, ds, _, v6, rfl, hg, s1, e1, by omega⟩
    · intro σ H1 pw
      obtain ⟨num, g, ds, v5, v6, rfl, hg, s1, e1, hl⟩ := (hPv _ _ _).mp pw
      walk_at "wp"
      exact q _ _ ds s1 e1 np (by omega)
theorem ok_law_stream (T : Txt K mg A) : FnOk P w K mg base CX0 2 A.f_law_stream A.d_law_stream ["_law_script", "_law_first", "_law_count"] (sp_law_stream K) := by
  have G_law_draws := ok_law_draws (w := w) (base := base) T
  have G_law_cell := ok_law_cell (w := w) (base := base) T
  refine T.F_law_stream.ok sc_law_stream (fun vs H Q E h => ?_) (fun cdv A' outer s H vs Q E hr h => ?_)
  · obtain ⟨l, ns, first, count, rfl, _⟩ := h
    rfl
  · obtain ⟨l, ns, first, count, rfl, hL, h1, h2, q⟩ := h
    refine ⟨_, (pss_cons (ps_set (i := 3) sc_law_stream.nd rfl (Or.inl rfl) (pe_lst pa_nil)) 
    (pss_cons (ps_for PassesOwn.never rfl (pi_range1 (by rfl) T.b_range (pa_cons (pv 2) pa_nil)) (pg_name (i := 4) sc_law_stream.nd rfl (Or.inl rfl)) 
      (pss_one (ps_expr (pe_bm PySem.F.plainAttrs_list PySem.F.slot_list_extend PySem.F.type_list_extend mt_extend (pv 3) (pa_cons (pe_call G_law_draws hr (by rfl) T.g_law_draws T.F_law_draws.kp T.B_law_draws .nil pass0 (pa_cons (pe_call G_law_cell hr (by rfl) T.g_law_cell T.F_law_cell.kp T.B_law_cell .nil pass0 (pa_cons (pv 0) (pa_cons (pe_op op_add (pv 1) (pv 4)) pa_nil))) (pa_cons pe_int pa_nil))) pa_nil))))) 
    (pss_one (ps_ret (pe_lst (pa_cons (pv 3) (pa_cons (pe_lst (pa_cons pe_int pa_nil)) pa_nil))))))), ?_⟩
    walk_at "wp"
    refine ⟨Nat.zero_le _, fun p np => ⟨by omega, by omega, ?_⟩⟩
    obtain ⟨Pv, hPv⟩ : ∃ Pv : Nat → St → Hp → Prop, ∀ i σ H', Pv i σ H' ↔ ∃ (ds : List Int) (v4 : Option V), σ = [some (V.ref l), some (V.int (first : Int)), some (V.int (count : Int)), some (V.ref p), v4] ∧
      Same H H' ∧ H' p = some (.lst (ds.map V.int)) ∧ ds.length = 12 * i := ⟨_, fun _ _ _ => Iff.rfl⟩
    refine loop_it (walk_range0 (n := count)) Pv ((hPv _ _ _).mpr ⟨[], none, rfl, same_upd np, upd_same, rfl⟩) (fun _ _ _ _ _ => trivial) ?_ ?_
    · intro i x σ H1 H2 hi pw y
      obtain ⟨ds, v4, rfl, s1, e1, hl⟩ := (hPv _ _ _).mp pw
      obtain ⟨rfl, rfl⟩ := y
      walk_at "wp"
      refine ⟨.inl ⟨rfl, _, SqL.of e1⟩, l, ns, first + i, by rw [Int.natCast_add], s1.seq hL, ?_⟩
      refine ⟨_, rfl, fun H3 t ds2 s3 e3 nt h12 => ?_⟩
      have npt : t ≠ p := fun z => by
        rw [z, e1] at nt
        cases nt
      refine ⟨_, rfl, _, s3 _ _ e1, _, e3, ?_, (hPv _ _ _).mpr ⟨ds ++ ds2, _, rfl, fun b o e => ?_, ?_, ?_⟩⟩
      · rw [List.length_map, List.length_map]
        exact Nat.le_of_lt (Nat.lt_of_le_of_lt (show ds.length + ds2.length ≤ 2000 by omega) (by decide))
      · rw [upd_ne (ne_of_none e np)]
        exact s3 _ _ (s1 _ _ e)
      · rw [upd_same, List.map_append]
      · rw [List.length_append]
        omega
    · intro σ H1 pw
      obtain ⟨ds, v4, rfl, s1, e1, hl⟩ := (hPv _ _ _).mp pw
      walk_at "wp"
      refine ⟨by decide, fun p2 n2 => ⟨by decide, fun st n3 => ?_⟩⟩
      have s4 := (same_upd (o := .lst [.int 0]) n2).trans (same_upd (o := .lst [.ref p, .ref p2]) n3)
      have np2 : p ≠ p2 := ne_of_none e1 n2
      have nst : st ≠ p2 := fun z => by
        rw [z, upd_same] at n3
        cases n3
      refine q _ st p p2 (s1.trans s4) ⟨upd_same, ⟨ds, s4 _ _ e1, fun z => ?_⟩, ⟨0, ?_⟩, nst, np2⟩ (s1.free n2)
      · rw [z] at hl
        simp only [List.length_nil] at hl
        omega
      · rw [upd_ne nst.symm, upd_same]
theorem ok_law_next (T : Txt K mg A) : FnOk P w K mg base CX0 1 A.f_law_next A.d_law_next ["_law_stream_here", "_law_many"] (sp_law_next K) := by
  refine T.F_law_next.ok sc_law_next (fun vs H Q E h => ?_) (fun cdv A' outer s H vs Q E hr h => ?_)
  · obtain ⟨st, d, p, m, rfl, _⟩ := h
    rfl
  · obtain ⟨st, d, p, m, rfl, hM, hm, q⟩ := h
    refine ⟨_, (pss_cons (ps_set (i := 2) sc_law_next.nd rfl (Or.inl rfl) (pe_ix ix_list (pv 0) pe_int (fun _ _ => rfl))) 
    (pss_cons (ps_set (i := 3) sc_law_next.nd rfl (Or.inl rfl) (pe_ix ix_list (pv 0) pe_int (fun _ _ => rfl))) 
    (pss_cons (ps_set (i := 4) sc_law_next.nd rfl (Or.inl rfl) (pe_op op_mod (pe_callTy call_intI (by rfl) T.b_int (by decide +kernel) (pa_cons (pe_ix ix_list (pv 2) (pe_op op_mod (pe_callTy call_intI (by rfl) T.b_int (by decide +kernel) (pa_cons (pe_ix ix_list (pv 3) pe_int (fun _ _ => rfl)) pa_nil)) (pe_callB call_len_seq (by rfl) T.b_len (by decide +kernel) (pa_cons (pv 2) pa_nil))) (fun _ _ => rfl)) pa_nil)) (pv 1))) 
    (pss_cons (ps_asg (pe_op op_add (pe_ix ix_list (pv 3) pe_int (fun _ _ => rfl)) pe_int) (pg_sub (pv 3) pe_int set_list)) 
    (pss_one (ps_ret (pv 4))))))), ?_⟩
    walk_at "wp"
    obtain ⟨ds, ed, hd⟩ := hM.dg
    obtain ⟨i, ep⟩ := hM.pl
    have sS := SqL.of (K := K) hM.at_
    refine ⟨_, sS, _, rfl, _, sS, _, rfl, ?_⟩
    walk_at "wp"
    have hl : 0 < ds.length := by
      cases ds with
      | nil => exact absurd rfl hd
      | cons x r => exact Nat.succ_pos _
    have hl2 : (0 : Int) < ((ds.map V.int).length : Int) := by rw [List.length_map]; omega
    obtain ⟨x, ex, hx⟩ := atI_in (xs := ds.map V.int) (i := i % ((ds.map V.int).length : Int)) (Int.emod_nonneg _ (by omega)) (Int.emod_lt_of_pos _ hl2)
    obtain ⟨z, _, rfl⟩ := List.mem_map.mp hx
    refine ⟨_, SqL.of ep, _, rfl, _, rfl, _, .inl (SqL.of ed), hl2, _, SqL.of ed, _, ex, _, rfl, hm, _, SqL.of ep, _, rfl, _, rfl, _, ep, _, rfl, ?_⟩
    exact q _ _ ⟨fun b o n e => by rw [upd_ne n]; exact e, _, upd_same⟩ (Int.emod_nonneg _ (by omega)) (Int.emod_lt_of_pos _ hm)
def isLetter (c : Nat) : Bool := (97 ≤ c && c ≤ 122) || (65 ≤ c && c ≤ 90)
def isDigit (c : Nat) : Bool := 48 ≤ c && c ≤ 57
def isWordC (c : Nat) : Bool := isLetter c || isDigit c || c == 95
/-- a word: a letter, then letters, digits, underscores; at most m characters -/
def IsWord (m : Nat) (z : Str) : Prop := ∃ c r, tl z = c :: r ∧ isLetter c = true ∧ (∀ x ∈ r, isWordC x = true) ∧ r.length < m
def sp_law_word (K : PySem.W.Frag) : Sp := fun vs H Q _ => ∃ (st d p : Addr) (j : Int), vs = [.ref st, .int j] ∧ Stm H st d p ∧ 0 ≤ j ∧ j < 10 ∧ ∀ H' z, Stp p H H' → IsWord 6 z → Q (.str z) H'
theorem ok_law_word (T : Txt K mg A) : FnOk P w K mg base CX0 2 A.f_law_word A.d_law_word ["_law_stream_here", "_law_index"] (sp_law_word K) := by
  have G_law_next := ok_law_next (w := w) (base := base) T
  refine T.F_law_word.ok sc_law_word (fun vs H Q E h => ?_) (fun cdv A' outer s H vs Q E hr h => ?_)
  · obtain ⟨st, d, p, j, rfl, _⟩ := h
    rfl
  · obtain ⟨st, d, p, j, rfl, hM, j0, j1, q⟩ := h
    refine ⟨_, (pss_cons (ps_set (i := 2) sc_law_word.nd rfl (Or.inr rfl) pe_str) 
    (pss_cons (ps_set (i := 3) sc_law_word.nd rfl (Or.inl rfl) (pe_call G_law_next hr (by rfl) T.g_law_next T.F_law_next.kp T.B_law_next .nil pass0 (pa_cons (pv 0) (pa_cons pe_int pa_nil)))) 
    (pss_cons (ps_set (i := 4) sc_law_word.nd rfl (Or.inl rfl) (pe_join pe_str (pe_lc (own := [("_law_k", 5)]) (by rfl) sc_law_word.nd (pi_range1 (by rfl) T.b_range (pa_cons (pv 3) pa_nil)) (blkOk_by (own := [("_law_k", 5)]) (N := ["_law_stream_here", "_law_index", "_law_letters", "_law_size", "_law_text", "_law_k", "_law_place", "_law_word_here"]) (sc := defScope s_law_word) (by decide +kernel)) (fun _ _ _ _ _ => (pg_name (i := 5) sc_law_word.nd rfl (Or.inl rfl) (Or.inr rfl))) (fun _ _ _ _ _ => pts_nil) (fun _ _ _ _ _ => (pe_ix ix_str (pv 2) (pe_call G_law_next hr (by rfl) T.g_law_next T.F_law_next.kp T.B_law_next .nil pass0 (pa_cons (pv 0) (pa_cons pe_int pa_nil))) (fun _ _ => rfl)))))) 
    (pss_cons (ps_set (i := 6) sc_law_word.nd rfl (Or.inl rfl) (pe_call G_law_next hr (by rfl) T.g_law_next T.F_law_next.kp T.B_law_next .nil pass0 (pa_cons (pv 0) (pa_cons (pe_op op_add (pv 3) pe_int) pa_nil)))) 
    (pss_cons (ps_set (i := 7) sc_law_word.nd rfl (Or.inl rfl) (pe_op op_add_str (pe_op op_add_str (pe_slice sl_str (pv 4) po_none (po_some (pv 6))) (pe_ix ix_str pe_str (pv 1) (fun _ _ => rfl))) (pe_slice sl_str (pv 4) (po_some (pv 6)) po_none))) 
    (pss_cons (ps_if (pt_cmpR op_in_sign (pe_ix ix_str (pv 7) pe_int (fun _ _ => rfl)) (pe_slice sl_str (pv 2) (po_some pe_int) po_none) (by rfl)) 
      (pss_one (ps_set (i := 7) sc_law_word.nd rfl (Or.inl rfl) (pe_op op_add_str pe_str (pv 7)))) pss_nil) 
    (pss_one (ps_ret (pv 7))))))))), ?_⟩
    walk_at "wp"
    have hLet : ∀ c ∈ tl "abcdefghijklmnopqrstuvwxyz_0123456789", isWordC c = true := by decide +kernel
    have hLow : ∀ c ∈ (tl "abcdefghijklmnopqrstuvwxyz_0123456789").take 26, isLetter c = true := by decide +kernel
    have hUp : ∀ c ∈ tl "ABCDEFGHIJ", isLetter c = true := by decide +kernel
    have lLet : (tl "abcdefghijklmnopqrstuvwxyz_0123456789").length = 37 := by decide +kernel
    have lUp : (tl "ABCDEFGHIJ").length = 10 := by decide +kernel
    have isW : ∀ c, isLetter c = true → isWordC c = true := fun c h => by unfold isWordC; rw [h]; rfl
    have big : ∀ n : Nat, n ≤ 1000 → n ≤ sizeLine := fun n h => Nat.le_of_lt (small1000 h)
    refine ⟨st, d, p, 5, rfl, hM, by decide, fun H1 v s1 v0 v1 => ?_⟩
    refine ⟨⟨_, rfl⟩, v, rfl, by omega, by omega, fun D hD => ?_⟩
    obtain ⟨i1, ep1⟩ := s1.pl
    have nDp : D ≠ p := (ne_of_none ep1 hD).symm
    have hD0 : H D = none := s1.free hD nDp
    obtain ⟨n, rfl⟩ : ∃ n : Nat, v = (n : Int) := ⟨v.toNat, by omega⟩
    obtain ⟨Pv, hPv⟩ : ∃ Pv : Nat → Hp → Prop, ∀ i H', Pv i H' ↔ Stp p H H' ∧ ∃ zs : List Str, H' D = some (.lst (zs.map V.str)) ∧ zs.length = i ∧ ∀ z ∈ zs, ∃ c, c ∈ tl "abcdefghijklmnopqrstuvwxyz_0123456789" ∧ z = ⟨#[c]⟩ := ⟨_, fun _ _ => Iff.rfl⟩
    refine loopc_it (walk_range0 (n := n)) Pv ((hPv _ _).mpr ⟨s1.same (same_upd hD), [], upd_same, rfl, fun _ h => by cases h⟩) (fun _ _ _ _ => trivial) ?_ ?_
    · intro i x H2 H3 hi pw y
      obtain ⟨s2, zs, ez, hl, hz⟩ := (hPv _ _).mp pw
      obtain ⟨rfl, rfl⟩ := y
      walk_at "wp"
      refine ⟨st, d, p, 37, rfl, hM.step s2, by decide, fun H4 u s4 u0 u1 => ?_⟩
      obtain ⟨c, ec, hc⟩ := atI_in (xs := tl "abcdefghijklmnopqrstuvwxyz_0123456789") u0 (by rw [lLet]; omega)
      refine ⟨u, rfl, by rw [len_tl, lLet]; decide, c, ec, zs.map V.str, s4.keep _ _ nDp ez, small1000 (by rw [List.length_map]; omega), (hPv _ _).mpr ⟨(s2.trans s4).upd hD0 nDp, zs ++ [⟨#[c]⟩], ?_, ?_, ?_⟩⟩
      · rw [upd_same, List.map_append]
        rfl
      · rw [List.length_append, hl]
        rfl
      · intro z hz2
        rcases List.mem_append.mp hz2 with h | h
        · exact hz _ h
        · exact ⟨c, hc, List.mem_singleton.mp h⟩
    · intro H2 pw
      obtain ⟨s2, zs, ez, hl, hz⟩ := (hPv _ _).mp pw
      have hT : ∀ c ∈ tl (flat zs), c ∈ tl "abcdefghijklmnopqrstuvwxyz_0123456789" := fun c hc => by
        rw [tl_flat] at hc
        obtain ⟨l, hl1, hl2⟩ := List.mem_flatten.mp hc
        obtain ⟨z, hz1, rfl⟩ := List.mem_map.mp hl1
        obtain ⟨c', h1, rfl⟩ := hz z hz1
        rw [tl1, List.mem_singleton] at hl2
        rw [hl2]
        exact h1
      have lT : (tl (flat zs)).length = n := by
        rw [tl_flat, List.length_flatten, List.map_map, ← hl]
        have e : zs.map (List.length ∘ tl) = zs.map fun _ => 1 := List.map_congr_left fun z hz1 => by
          obtain ⟨c', h1, rfl⟩ := hz z hz1
          rfl
        rw [e]
        exact sum_ones zs
      refine ⟨zs, .inl (SqL.of ez), ?_, n, rfl, ?_⟩
      · rw [flat_len, len_tl, lT, show (Str.ofString "").length = 0 by decide +kernel]
        omega
      refine ⟨st, d, p, (n : Int) + 1, rfl, hM.step s2, by omega, fun H3 u s3 u0 u1 => ?_⟩
      obtain ⟨k, rfl⟩ : ∃ k : Nat, u = (k : Int) := ⟨u.toNat, by omega⟩
      rw [join_flat _ (by decide +kernel)]
      obtain ⟨c, ec, hc⟩ := atI_in (xs := tl "ABCDEFGHIJ") j0 (by rw [lUp]; omega)
      walk_at "wp"
      have lf : (flat zs).length = n := by rw [len_tl, lT]
      have lw : ∀ z : Str, z.length ≤ 20 → z.length ≤ sizeLine := fun z h => big _ (by omega)
      have l1 : (cutS (flat zs) none (some (k : Int))).length ≤ 4 := by
        rw [len_tl, cut_take, List.length_take, lT]
        omega
      have l2 : (cutS (flat zs) (some (k : Int)) none).length ≤ 4 := by
        rw [len_tl, cut_drop, List.length_drop, lT]
        omega
      have l3 : ((⟨#[c]⟩ : Str)).length = 1 := rfl
      have eW : tl (cutS (flat zs) none (some (k : Int)) ++ ⟨#[c]⟩ ++ cutS (flat zs) (some (k : Int)) none) = (tl (flat zs)).take k ++ c :: (tl (flat zs)).drop k := by
        rw [tl_append, tl_append, cut_take, cut_drop, tl1, List.append_assoc]
        rfl
      have lW : ((tl (flat zs)).take k ++ c :: (tl (flat zs)).drop k).length = n + 1 := by
        rw [List.length_append, List.length_cons, List.length_take, List.length_drop, lT]
        omega
      have aW : ∀ x ∈ (tl (flat zs)).take k ++ c :: (tl (flat zs)).drop k, x = c ∨ x ∈ tl "abcdefghijklmnopqrstuvwxyz_0123456789" := fun x hx => by
        rcases List.mem_append.mp hx with h | h
        · exact .inr (hT _ (List.mem_of_mem_take h))
        · rcases List.mem_cons.mp h with h | h
          · exact .inl h
          · exact .inr (hT _ (List.mem_of_mem_drop h))
      obtain ⟨W, hW⟩ : ∃ W : Str, cutS (flat zs) none (some (k : Int)) ++ ⟨#[c]⟩ ++ cutS (flat zs) (some (k : Int)) none = W := ⟨_, rfl⟩
      rw [hW] at eW
      generalize (tl (flat zs)).take k ++ c :: (tl (flat zs)).drop k = L at eW lW aW
      obtain ⟨x, r, rfl⟩ : ∃ x r, L = x :: r := by
        cases L with
        | nil => simp at lW
        | cons x r => exact ⟨x, r, rfl⟩
      have lenW : W.length = n + 1 := by rw [len_tl, eW, lW]
      have lr : r.length = n := by simpa using lW
      have wc : ∀ y ∈ x :: r, isWordC y = true := fun y hy => by
        rcases aW y hy with h | h
        · rw [h]
          exact isW _ (hUp _ hc)
        · exact hLet _ h
      have s03 := s2.trans s3
      refine ⟨big _ (by omega), by decide +kernel, c, ec, big _ (by omega), big _ (by omega), ?_, ?_, x, ?_, by decide +kernel, ?_⟩
      · rw [len_app]
        exact big _ (by omega)
      · rw [hW]
        exact big _ (by omega)
      · rw [hW]
        show atI (tl W) 0 = some x
        rw [eW]
        exact atI_nat (xs := x :: r) (j := 0) rfl
      · have e26 : tl (cutS (Str.ofString "abcdefghijklmnopqrstuvwxyz_0123456789") (some 26) none) = (tl "abcdefghijklmnopqrstuvwxyz_0123456789").drop 26 := cut_drop _ 26
        rw [hW]
        split
        · have lv : (Str.ofString "v").length = 1 := by decide +kernel
          refine ⟨big _ (by omega), q _ _ s03 ⟨118, x :: r, ?_, by decide, wc, by rw [List.length_cons]; omega⟩⟩
          rw [tl_append, eW]
          rfl
        · rename_i hx
          refine q _ _ s03 ⟨x, r, eW, ?_, fun y hy => wc y (List.mem_cons_of_mem _ hy), by omega⟩
          rcases aW x List.mem_cons_self with h | h
          · rw [h]
            exact hUp _ hc
          · rw [← List.take_append_drop 26 (tl (Str.ofString "abcdefghijklmnopqrstuvwxyz_0123456789"))] at h
            rcases List.mem_append.mp h with h | h
            · exact hLow _ h
            · exact absurd (decide_eq_true (by rw [← e26] at h; exact h)) hx
/-- how many characters from the beginning on are among the given ones -/
def runL (chs : List Nat) (l : List Nat) : Nat := (l.takeWhile fun c => decide (c ∈ chs)).length
abbrev LETT : Str := "abcdefghijklmnopqrstuvwxyzABCDEFGHIJKLMNOPQRSTUVWXYZ"
abbrev DIGI : Str := "0123456789"
abbrev WORC : Str := "abcdefghijklmnopqrstuvwxyzABCDEFGHIJKLMNOPQRSTUVWXYZ0123456789_"
def SYMS : List Str := ["<=", ">=", "==", "||", ",", ";", ":", "[", "]", "(", ")", "{", "}", "=", "+", "-", "*", "<", ">"]
theorem runL_cons (chs : List Nat) (c : Nat) (r : List Nat) : runL chs (c :: r) = if c ∈ chs then runL chs r + 1 else 0 := by
  unfold runL
  by_cases h : c ∈ chs
  · rw [List.takeWhile_cons_of_pos (by simpa using h), if_pos h]
    rfl
  · rw [List.takeWhile_cons_of_neg (by simpa using h), if_neg h]
    rfl
theorem runL_le (chs l : List Nat) : runL chs l ≤ l.length := by
  induction l with
  | nil => exact Nat.zero_le _
  | cons c r ih =>
    rw [runL_cons, List.length_cons]
    split <;> omega
/-- the first symbol that stands at the beginning -/
def symAt (l : List Nat) : List Str → Option Str
  | [] => none
  | s :: r => if l.take s.length = tl s then some s else symAt l r
/-- what sign stands at the beginning of a text, and its length -/
inductive SignOf : List Nat → Str → Nat → Prop where
  | word (l : List Nat) (c : Nat) (r : List Nat) : l = c :: r → c ∈ tl LETT → runL (tl WORC) l ≤ 20 → SignOf l "word" (runL (tl WORC) l)
  | number (l : List Nat) (c : Nat) (r : List Nat) : l = c :: r → c ∉ tl LETT → c ∈ tl DIGI → runL (tl DIGI) l ≤ 9 → SignOf l "number" (runL (tl DIGI) l)
  | symbol (l : List Nat) (c : Nat) (r : List Nat) (s : Str) : l = c :: r → c ∉ tl LETT → c ∉ tl DIGI → symAt l SYMS = some s → SignOf l "symbol" s.length
def sp_run_length (K : PySem.W.Frag) : Sp := fun vs H Q _ => ∃ (z ch : Str) (at_ : Nat), vs = [.str z, .int (at_ : Int), .str ch] ∧ z.length ≤ 1000000 ∧ at_ ≤ (tl z).length ∧ Q (.int (runL (tl ch) ((tl z).drop at_) : Int)) H
/-- what fault stands at the beginning of a text, how far behind it is told, its reason -/
inductive FaultOf : List Nat → Nat → Str → Prop where
  | word (l : List Nat) (c : Nat) (r : List Nat) : l = c :: r → c ∈ tl LETT → 20 < runL (tl WORC) l → FaultOf l 20 "name too long"
  | number (l : List Nat) (c : Nat) (r : List Nat) : l = c :: r → c ∉ tl LETT → c ∈ tl DIGI → 9 < runL (tl DIGI) l → FaultOf l 9 "number too long"
  | char (l : List Nat) (c : Nat) (r : List Nat) : l = c :: r → c ∉ tl LETT → c ∉ tl DIGI → symAt l SYMS = none → FaultOf l 0 "unexpected character"
def xfs (l c : Nat) (r : Str) : List (Str × V) := [("reason", .str r), ("column", .int (c : Int)), ("line", .int (l : Int))]
def Out (C : Addr) (H : Hp) (E : XK) (l c : Nat) (r : Str) : Prop := ∀ H' d, Same H H' → H d = none → H' d = some (.xd (xfs l c r)) → E (.ref C) (some d) H'
theorem raise_fin {C : Addr} {H : Hp} {E : XK} {l c : Nat} {r : Str} (hl : l < 1000000000) (hc : c < 1000000000) (hr : r.length ≤ 1000) (q : Out C H E l c r) (a : Addr) (na : H a = none) : sp_init C [.ref a, .int (l : Int), .int (c : Int), .str r] (upd H a (exo a C none))
    (fun v H2 => v = .non ∧ ∃ (d : Addr) (fs : List (Str × V)), H2 a = some (exo a C (some d)) ∧ H2 d = some (exd d fs) ∧ H d = none ∧ E (.ref C) (some d) (upd (L2.del H2 a) d (.xd fs))) (fun _ _ _ => False) := by
  refine ⟨a, l, c, r, rfl, upd_same, hl, hc, hr, fun H' d hda hd e1 e2 e3 => ?_⟩
  have hd0 : H d = none := by
    rw [upd_ne hda] at hd
    exact hd
  refine ⟨rfl, d, _, e1, e2, hd0, q _ d (fun b o z => ?_) hd0 upd_same⟩
  have hba := ne_of_none z na
  have hbd := ne_of_none z hd0
  rw [upd_ne hbd, del_ne hba, e3 b hba hbd, upd_ne hba]
  exact z
def sp_sign_at (K : PySem.W.Frag) : Sp := fun vs H Q E => ∃ (C : Addr) (z : Str) (at_ line col : Nat), vs = [.str z, .int (at_ : Int), .int (line : Int), .int (col : Int)] ∧ z.length ≤ 1000000 ∧ at_ ≤ (tl z).length ∧ line ≤ 2000000 ∧ col ≤ 2000000 ∧ PySem.W.nsIn K mainGlobals "TextFault" = some (some (.ref C)) ∧
  ((∃ (k : Str) (n : Nat), SignOf ((tl z).drop at_) k n ∧ ∀ H' t y, Same H H' → H' t = some (.tup [.str k, .str y]) → tl y = ((tl z).drop at_).take n → Q (.ref t) H') ∨
   (∃ (o : Nat) (r : Str), FaultOf ((tl z).drop at_) o r ∧ Out C H E line (col + o) r))
theorem ok_run_length (T : Txt K mg A) : FnOk P w K mg base CX0 1 A.f_run_length A.d_run_length ["text", "at", "characters"] (sp_run_length K) := by
  refine T.F_run_length.ok sc_run_length (fun vs H Q E h => ?_) (fun cdv A' outer s H vs Q E hr h => ?_)
  · obtain ⟨z, ch, at_, rfl, _⟩ := h
    rfl
  · obtain ⟨z, ch, at_, rfl, hz, ha, q⟩ := h
    have big : ∀ n : Nat, n ≤ 1000000 → n ≤ sizeLine := fun n h => Nat.le_trans h (by decide)
    refine ⟨_, (pss_cons (ps_set (i := 3) sc_run_length.nd rfl (Or.inl rfl) (pv 1)) 
    (pss_cons (ps_while PassesOwn.never (PW.pt (pw_and (pt_cmpR op_lt (pv 3) (pe_callB call_len_str (by rfl) T.b_len (by decide +kernel) (pa_cons (pv 0) pa_nil)) (nomark _)) (pw_and1 (pt_cmpR op_in_sign (pe_ix ix_str (pv 0) (pv 3) (fun _ _ => rfl)) (pv 2) (by rfl))))) 
      (pss_one (ps_aug (i := 3) sc_run_length.nd rfl (Or.inl rfl) pe_int ip_add))) 
    (pss_one (ps_ret (pe_op op_sub (pv 3) (pv 1)))))), ?_⟩
    walk_at "wp"
    obtain ⟨W, hW⟩ : ∃ W : Nat → St → Hp → Prop, ∀ m σ H', W m σ H' ↔ H' = H ∧ ∃ b : Nat, m = (tl z).length - b ∧ at_ ≤ b ∧ b ≤ (tl z).length ∧ σ = [some (V.str z), some (V.int (at_ : Int)), some (V.str ch), some (V.int (b : Int))] ∧ runL (tl ch) ((tl z).drop at_) = (b - at_) + runL (tl ch) ((tl z).drop b) := ⟨_, fun _ _ _ => Iff.rfl⟩
    refine loopw W _ ((hW _ _ _).mpr ⟨rfl, at_, rfl, Nat.le_refl _, ha, rfl, by rw [Nat.sub_self, Nat.zero_add]⟩) ?_
    intro m σ H1 hw
    obtain ⟨rfl, b, rfl, hb1, hb2, rfl, e⟩ := (hW _ _ _).mp hw
    walk_at "wp"
    refine ⟨big _ hz, ?_⟩
    by_cases hb : b < (tl z).length
    · rw [if_pos (decide_eq_true (by rw [len_tl]; omega))]
      refine ⟨big _ hz, (tl z)[b], atI_nat (List.getElem?_eq_getElem hb), ?_⟩
      rw [List.drop_eq_getElem_cons hb, runL_cons] at e
      by_cases hm : (tl z)[b] ∈ tl ch
      · rw [if_pos hm] at e
        rw [if_pos (decide_eq_true hm)]
        refine turn_of ?_
        walk_at "wp"
        exact ⟨_, by omega, (hW _ _ _).mpr ⟨rfl, b + 1, rfl, by omega, by omega, by rw [Int.natCast_add]; rfl, by omega⟩⟩
      · rw [if_neg hm] at e
        rw [if_neg (by rw [decide_eq_true_eq]; exact hm)]
        rw [e, Nat.add_zero, Int.ofNat_sub hb1] at q
        exact q
    · rw [if_neg (by rw [decide_eq_true_eq, len_tl]; omega)]
      rw [List.drop_eq_nil_of_le (show (tl z).length ≤ b by omega)] at e
      rw [e, show runL (tl ch) [] = 0 from rfl, Nat.add_zero, Int.ofNat_sub hb1] at q
      exact q
theorem ok_sign_at (T : Txt K mg A) : FnOk P w K mg base (L2N.CX P w) 3 A.f_sign_at A.d_sign_at ["text", "at", "line", "column"] (sp_sign_at K) := by
  have G_run_length := ok_run_length (w := w) (base := base) T
  refine T.F_sign_at.okN sc_sign_at (fun vs H Q E h => ?_) (fun cdv A' outer s H vs Q E hr h => ?_)
  · obtain ⟨_, z, at_, line, col, rfl, _⟩ := h
    rfl
  · obtain ⟨Cx, z, at_, line, col, rfl, hz, ha, hln, hcl, hCx, hm⟩ := h
    have eC : Cx = A.xC := by
      have h1 := T.tf.g0
      rw [hCx] at h1
      cases h1
      rfl
    subst eC
    have big : ∀ n : Nat, n ≤ 1000000 → n ≤ sizeLine := fun n h => Nat.le_trans h (by decide)
    refine ⟨_, (pss_cons (ps_if (pt_cmpR op_in_sign (pe_ix ix_str (pv 0) (pv 1) (fun _ _ => rfl)) (pe_glob (v := .str "abcdefghijklmnopqrstuvwxyzABCDEFGHIJKLMNOPQRSTUVWXYZ") rfl T.g_LETTERS ⟨_, rfl⟩) (by rfl)) 
      (pss_cons (ps_set (i := 4) sc_sign_at.nd rfl (Or.inl rfl) (pe_call G_run_length (hr.mono (by decide)) (by rfl) T.g_run_length T.F_run_length.kp T.B_run_length .nil pass0 (pa_cons (pv 0) (pa_cons (pv 1) (pa_cons (pe_glob (v := .str "abcdefghijklmnopqrstuvwxyzABCDEFGHIJKLMNOPQRSTUVWXYZ0123456789_") rfl T.g_WORD_CHARACTERS ⟨_, rfl⟩) pa_nil))))) 
      (pss_cons (ps_if (pt_cmpR op_gt (pv 4) (pe_glob (v := .int 20) rfl T.g_LONGEST_WORD ⟨_, rfl⟩) (nomark _)) 
        (pss_one (L2N.ps_raise rfl (L2N.takes_of rfl rfl rfl rfl) (pmkN_own T.tf.T T.tf.iC T.tf.tI (ok_init T.tf) hr T.tf.bd pass0 (by rfl) T.tf.g (pa_cons (pv 2) (pa_cons (pe_op op_add (pv 3) (pe_glob (v := .int 20) rfl T.g_LONGEST_WORD ⟨_, rfl⟩)) (pa_cons pe_str pa_nil)))))) pss_nil) 
      (pss_one (ps_ret (pe_tup (pa_cons pe_str (pa_cons (pe_slice sl_str (pv 0) (po_some (pv 1)) (po_some (pe_op op_add (pv 1) (pv 4)))) pa_nil))))))) pss_nil) 
    (pss_cons (ps_if (pt_cmpR op_in_sign (pe_ix ix_str (pv 0) (pv 1) (fun _ _ => rfl)) (pe_glob (v := .str "0123456789") rfl T.g_DIGITS ⟨_, rfl⟩) (by rfl)) 
      (pss_cons (ps_set (i := 4) sc_sign_at.nd rfl (Or.inl rfl) (pe_call G_run_length (hr.mono (by decide)) (by rfl) T.g_run_length T.F_run_length.kp T.B_run_length .nil pass0 (pa_cons (pv 0) (pa_cons (pv 1) (pa_cons (pe_glob (v := .str "0123456789") rfl T.g_DIGITS ⟨_, rfl⟩) pa_nil))))) 
      (pss_cons (ps_if (pt_cmpR op_gt (pv 4) (pe_glob (v := .int 9) rfl T.g_LONGEST_NUMBER ⟨_, rfl⟩) (nomark _)) 
        (pss_one (L2N.ps_raise rfl (L2N.takes_of rfl rfl rfl rfl) (pmkN_own T.tf.T T.tf.iC T.tf.tI (ok_init T.tf) hr T.tf.bd pass0 (by rfl) T.tf.g (pa_cons (pv 2) (pa_cons (pe_op op_add (pv 3) (pe_glob (v := .int 9) rfl T.g_LONGEST_NUMBER ⟨_, rfl⟩)) (pa_cons pe_str pa_nil)))))) pss_nil) 
      (pss_one (ps_ret (pe_tup (pa_cons pe_str (pa_cons (pe_slice sl_str (pv 0) (po_some (pv 1)) (po_some (pe_op op_add (pv 1) (pv 4)))) pa_nil))))))) pss_nil) 
    (pss_cons (ps_for (passes_of rfl) rfl (pi_tup (pe_glob (v := .ref A.t_SYMBOLS) rfl T.g_SYMBOLS rfl)) (pg_name (i := 5) sc_sign_at.nd rfl (Or.inl rfl)) 
      (pss_one (ps_if (pt_cmpR op_eq (pe_slice sl_str (pv 0) (po_some (pv 1)) (po_some (pe_op op_add (pv 1) (pe_callB call_len_str (by rfl) T.b_len (by decide +kernel) (pa_cons (pv 5) pa_nil))))) (pv 5) (nomark _)) 
        (pss_one (ps_ret (pe_tup (pa_cons pe_str (pa_cons (pv 5) pa_nil))))) pss_nil))) 
    (pss_one (L2N.ps_raise rfl (L2N.takes_of rfl rfl rfl rfl) (pmkN_own T.tf.T T.tf.iC T.tf.tI (ok_init T.tf) hr T.tf.bd pass0 (by rfl) T.tf.g (pa_cons (pv 2) (pa_cons (pv 3) (pa_cons pe_str pa_nil))))))))), ?_⟩
    walk_at "wp"
    refine ⟨big _ hz, ?_⟩
    have hat : ∀ (l : List Nat) (c : Nat) (r : List Nat), (tl z).drop at_ = l → l = c :: r → atI z.cps.toList (at_ : Int) = some c := fun l c r e1 e2 => by
      refine atI_nat (xs := tl z) ?_
      have e3 := congrArg (fun x : List Nat => x[0]?) (e1.trans e2)
      simpa using e3
    have hcut : ∀ k : Nat, tl (cutS z (some (at_ : Int)) (some ((at_ : Int) + (k : Int)))) = ((tl z).drop at_).take k := fun k => cut_mid z at_ k
    have s2 : 2 ≤ sizeLine := by decide
    rcases hm with ⟨k, n, hS, q⟩ | ⟨o, r, hF, q⟩
    · generalize el : (tl z).drop at_ = l at hS q hcut
      cases hS with
      | word c r e hc hn =>
        refine ⟨c, hat _ _ _ el e, ?_⟩
        rw [if_pos (decide_eq_true hc)]
        refine ⟨z, WORC, at_, rfl, hz, ha, ?_⟩
        rw [el]
        walk_at "wp"
        rw [if_neg (by rw [decide_eq_true_eq]; omega)]
        exact ⟨big _ hz, s2, fun t nt => q _ t _ (same_upd nt) upd_same (hcut _)⟩
      | number c r e hc hd hn =>
        refine ⟨c, hat _ _ _ el e, ?_⟩
        rw [if_neg (by rw [decide_eq_true_eq]; exact hc)]
        refine ⟨big _ hz, c, hat _ _ _ el e, ?_⟩
        rw [if_pos (decide_eq_true hd)]
        refine ⟨z, DIGI, at_, rfl, hz, ha, ?_⟩
        rw [el]
        walk_at "wp"
        rw [if_neg (by rw [decide_eq_true_eq]; omega)]
        exact ⟨big _ hz, s2, fun t nt => q _ t _ (same_upd nt) upd_same (hcut _)⟩
      | symbol c r s0 e hc hd hs =>
        refine ⟨c, hat _ _ _ el e, ?_⟩
        rw [if_neg (by rw [decide_eq_true_eq]; exact hc)]
        refine ⟨big _ hz, c, hat _ _ _ el e, ?_⟩
        rw [if_neg (by rw [decide_eq_true_eq]; exact hd)]
        refine ⟨⟨_, T.q_SYMBOLS H⟩, ?_⟩
        obtain ⟨Pv, hPv⟩ : ∃ Pv : Nat → St → Hp → Prop, ∀ i σ H', Pv i σ H' ↔ H' = H ∧ symAt l (SYMS.drop i) = some s0 ∧ ∃ v5, σ = [some (V.str z), some (V.int (at_ : Int)), some (V.int (line : Int)), some (V.int (col : Int)), none, v5] := ⟨_, fun _ _ _ => Iff.rfl⟩
        refine loop_it (walk_tup (xs := SYMS.map V.str)) Pv ((hPv _ _ _).mpr ⟨rfl, hs, none, rfl⟩) (fun i σ H' _ pw => T.q_SYMBOLS H') ?_ ?_
        · intro i x σ H1 H2 hi pw y
          obtain ⟨rfl, e2, v5, rfl⟩ := (hPv _ _ _).mp pw
          obtain ⟨rfl, ex⟩ := yat_at y
          rw [List.length_map] at hi
          rw [List.getElem?_map, List.getElem?_eq_getElem hi] at ex
          cases ex
          have hlen : SYMS[i].length ≤ 1000 := (show ∀ s ∈ SYMS, s.length ≤ 1000 by decide +kernel) _ (List.getElem_mem hi)
          rw [List.drop_eq_getElem_cons hi] at e2
          generalize SYMS[i] = sy at *
          walk_at "wp"
          refine ⟨big _ (by omega), big _ hz, ?_⟩
          have e3 : (cutS z (some (at_ : Int)) (some ((at_ : Int) + (sy.length : Int))) = sy) ↔ l.take sy.length = tl sy := by
            rw [← hcut]
            exact ⟨fun h => by rw [h], fun h => ext_tl h⟩
          by_cases hm : l.take sy.length = tl sy
          · rw [if_pos (decide_eq_true (e3.mpr hm))]
            have e4 : sy = s0 := by
              unfold symAt at e2
              rw [if_pos hm] at e2
              exact Option.some.inj e2
            subst e4
            exact ⟨s2, fun t nt => q _ t _ (same_upd nt) upd_same hm.symm⟩
          · rw [if_neg (by rw [decide_eq_true_eq, e3]; exact hm)]
            unfold symAt at e2
            rw [if_neg hm] at e2
            exact (hPv _ _ _).mpr ⟨rfl, e2, _, rfl⟩
        · intro σ H1 pw
          obtain ⟨rfl, e2, v5, rfl⟩ := (hPv _ _ _).mp pw
          exfalso
          rw [List.length_map, List.drop_length] at e2
          cases e2
    · generalize el : (tl z).drop at_ = l at hF hcut
      cases hF with
      | word c r e hc hn =>
        refine ⟨c, hat _ _ _ el e, ?_⟩
        rw [if_pos (decide_eq_true hc)]
        refine ⟨z, WORC, at_, rfl, hz, ha, ?_⟩
        rw [el]
        walk_at "wp"
        rw [if_pos (decide_eq_true (by omega))]
        exact ⟨_, rfl, _, rfl, ⟨_, _, rfl, rfl, ⟨(by decide : 3 ≤ 1000), fun a na => raise_fin (C := A.xC) (r := "name too long") (by omega) (show col + 20 < 1000000000 by omega) (by decide +kernel) q a na⟩⟩⟩
      | number c r e hc hd hn =>
        refine ⟨c, hat _ _ _ el e, ?_⟩
        rw [if_neg (by rw [decide_eq_true_eq]; exact hc)]
        refine ⟨big _ hz, c, hat _ _ _ el e, ?_⟩
        rw [if_pos (decide_eq_true hd)]
        refine ⟨z, DIGI, at_, rfl, hz, ha, ?_⟩
        rw [el]
        walk_at "wp"
        rw [if_pos (decide_eq_true (by omega))]
        exact ⟨_, rfl, _, rfl, ⟨_, _, rfl, rfl, ⟨(by decide : 3 ≤ 1000), fun a na => raise_fin (C := A.xC) (r := "number too long") (by omega) (show col + 9 < 1000000000 by omega) (by decide +kernel) q a na⟩⟩⟩
      | char c r e hc hd hs =>
        refine ⟨c, hat _ _ _ el e, ?_⟩
        rw [if_neg (by rw [decide_eq_true_eq]; exact hc)]
        refine ⟨big _ hz, c, hat _ _ _ el e, ?_⟩
        rw [if_neg (by rw [decide_eq_true_eq]; exact hd)]
        refine ⟨⟨_, T.q_SYMBOLS H⟩, ?_⟩
        obtain ⟨Pv, hPv⟩ : ∃ Pv : Nat → St → Hp → Prop, ∀ i σ H', Pv i σ H' ↔ H' = H ∧ symAt l (SYMS.drop i) = none ∧ ∃ v5, σ = [some (V.str z), some (V.int (at_ : Int)), some (V.int (line : Int)), some (V.int (col : Int)), none, v5] := ⟨_, fun _ _ _ => Iff.rfl⟩
        refine loop_it (walk_tup (xs := SYMS.map V.str)) Pv ((hPv _ _ _).mpr ⟨rfl, hs, none, rfl⟩) (fun i σ H' _ pw => T.q_SYMBOLS H') ?_ ?_
        · intro i x σ H1 H2 hi pw y
          obtain ⟨rfl, e2, v5, rfl⟩ := (hPv _ _ _).mp pw
          obtain ⟨rfl, ex⟩ := yat_at y
          rw [List.length_map] at hi
          rw [List.getElem?_map, List.getElem?_eq_getElem hi] at ex
          cases ex
          have hlen : SYMS[i].length ≤ 1000 := (show ∀ s ∈ SYMS, s.length ≤ 1000 by decide +kernel) _ (List.getElem_mem hi)
          rw [List.drop_eq_getElem_cons hi] at e2
          generalize SYMS[i] = sy at *
          walk_at "wp"
          refine ⟨big _ (by omega), big _ hz, ?_⟩
          have e3 : (cutS z (some (at_ : Int)) (some ((at_ : Int) + (sy.length : Int))) = sy) ↔ l.take sy.length = tl sy := by
            rw [← hcut]
            exact ⟨fun h => by rw [h], fun h => ext_tl h⟩
          by_cases hm : l.take sy.length = tl sy
          · unfold symAt at e2
            rw [if_pos hm] at e2
            cases e2
          · rw [if_neg (by rw [decide_eq_true_eq, e3]; exact hm)]
            unfold symAt at e2
            rw [if_neg hm] at e2
            exact (hPv _ _ _).mpr ⟨rfl, e2, _, rfl⟩
        · intro σ H1 pw
          obtain ⟨rfl, _, v5, rfl⟩ := (hPv _ _ _).mp pw
          walk_at "wp"
          exact ⟨_, rfl, _, rfl, ⟨(by decide : 3 ≤ 1000), fun a na => raise_fin (C := A.xC) (r := "unexpected character") (by omega) (show col + 0 < 1000000000 by omega) (by decide +kernel) q a na⟩⟩
end
local macro_rules | `(tactic| walk_at "wp") => `(tactic| simp only [tSeq, tAsg, gName, gTup, gCons, gNil, tVar, tC, tOp, tUn, rI, rI0, rU, tCB, tCons, tNil, tIfS, tRet, tRetN, tNext, tNever, test_eq, tB, tTup, tLst, tCall, tCallS, tIf, tAndV, tOrV, tNotV, tNot, tAnd, tOr, rEq, rNe, scal_ii, scal_ss, scal_bb, dec_ii, dec_ss, dec_bb, for_eq, lc_eq, while_eq, tDrop, tYes, iList, iTup, iStr, iRng1, iRng2, RZ.iZipA, L2.start, rIxL, rIxT, rIxS, rSlS, cxK, tSl, tPart, tNoPart, tBM, tBM0, rAppend, rExtend, rRepS, gSub, rSetL, tAug, ipI, rAdd, rSub, tM1, tM0,
  List.map_cons, List.map_nil, List.length_cons, List.length_nil, List.cons_append, List.nil_append, List.append_nil, List.getElem?_cons_succ, List.getElem?_cons_zero, List.set_cons_succ, List.set_cons_zero, Nat.reduceAdd, Nat.reduceSub, List.replicate_succ, List.replicate_zero, wipe,
  Option.some.injEq, V.int.injEq, V.str.injEq, sgn_eq, V.ref.injEq, V.bl.injEq, exists_eq_left, exists_eq_left', exists_and_left, exists_eq_right, List.cons.injEq, and_true, true_and, ex_bl, ex_int, exists_const, Nat.zero_add, Int.toNat_natCast, Int.zero_add, and_assoc, reduceCtorEq, false_and, and_false, exists_false, or_false, false_or, eq_self, decide_true, decide_false, ite_true, ite_false, if_true, if_false, Bool.false_eq_true, Bool.not_true, Bool.not_false, ↓reduceIte])
section
variable {w : World} {K : PySem.W.Frag} {mg : Str → Option Value} {base : Heap} {A : Ad}
structure Sg where
  k : Str
  v : V
  line : Nat
  col : Nat
def Sg.tup (g : Sg) : List V := [.str g.k, g.v, .int (g.line : Int), .int (g.col : Int)]
/-- the value of a sign that is written so -/
inductive ValOf : Str → Str → V → Prop where
  | num (y : Str) (m : Int) : PySem.intText? y = some m → y.length ≤ 640 → ValOf "number" y (.int m)
  | oth (k y : Str) : k ≠ "number" → ValOf k y (.str y)
/-- the signs of a text from a place on -/
inductive Lex : List Nat → Nat → Nat → List Sg → Prop where
  | nil (l c : Nat) : Lex [] l c []
  | nl {r : List Nat} {l c : Nat} {s : List Sg} : Lex r (l + 1) 1 s → Lex (10 :: r) l c s
  | sp {x : Nat} {r : List Nat} {l c : Nat} {s : List Sg} : x = 32 ∨ x = 9 → Lex r l (c + 1) s → Lex (x :: r) l c s
  | sg {x : Nat} {r : List Nat} {l c : Nat} (n : Nat) (s : List Sg) (k y : Str) (v : V) : x ≠ 10 → x ≠ 32 → x ≠ 9 → SignOf (x :: r) k n → 1 ≤ n → n ≤ r.length + 1 → tl y = (x :: r).take n → ValOf k y v → Lex ((x :: r).drop n) l (c + n) s → Lex (x :: r) l c (⟨k, v, l, c⟩ :: s)
/-- the text is no text of signs: where its first fault is told, and why -/
inductive LexF : List Nat → Nat → Nat → Nat → Nat → Str → Prop where
  | nl {r : List Nat} {l c L C : Nat} {w : Str} : LexF r (l + 1) 1 L C w → LexF (10 :: r) l c L C w
  | sp {x : Nat} {r : List Nat} {l c L C : Nat} {w : Str} : x = 32 ∨ x = 9 → LexF r l (c + 1) L C w → LexF (x :: r) l c L C w
  | sg {x : Nat} {r : List Nat} {l c L C : Nat} {w : Str} (n : Nat) (k y : Str) (v : V) : x ≠ 10 → x ≠ 32 → x ≠ 9 → SignOf (x :: r) k n → 1 ≤ n → n ≤ r.length + 1 → tl y = (x :: r).take n → ValOf k y v → LexF ((x :: r).drop n) l (c + n) L C w → LexF (x :: r) l c L C w
  | here {x : Nat} {r : List Nat} {l c o : Nat} {w : Str} : x ≠ 10 → x ≠ 32 → x ≠ 9 → FaultOf (x :: r) o w → LexF (x :: r) l c l (c + o) w
def sp_read_signs (K : PySem.W.Frag) : Sp := fun vs H Q E => ∃ (C : Addr) (z : Str), vs = [.str z] ∧ z.length ≤ 1000000 ∧ PySem.W.nsIn K mainGlobals "TextFault" = some (some (.ref C)) ∧
  ((∃ s : List Sg, s.length ≤ 900 ∧ Lex (tl z) 1 1 s ∧
    ∀ H' t (ags : List (Addr × Sg)), Same H H' → H' t = some (.lst (ags.map fun p => V.ref p.1)) → H t = none → ags.map (·.2) = s → (∀ p ∈ ags, H' p.1 = some (.tup p.2.tup)) → Q (.ref t) H') ∨
   (∃ (L Cc : Nat) (r : Str), LexF (tl z) 1 1 L Cc r ∧ Out C H E L Cc r))
theorem ok_read_signs (T : Txt K mg A) : FnOk P w K mg base (L2N.CX P w) 4 A.f_read_signs A.d_read_signs ["text"] (sp_read_signs K) := by
  have G_sign_at := ok_sign_at (w := w) (base := base) T
  refine T.F_read_signs.okN sc_read_signs (fun vs H Q E h => ?_) (fun cdv A' outer s H vs Q E hr h => ?_)
  · obtain ⟨_, z, rfl, _⟩ := h
    rfl
  · obtain ⟨Cx, z, rfl, hz, hCx, hm⟩ := h
    have eC : Cx = A.xC := by
      have h1 := T.tf.g0
      rw [hCx] at h1
      cases h1
      rfl
    subst eC
    have big : ∀ n : Nat, n ≤ 1000000 → n ≤ sizeLine := fun n h => Nat.le_trans h (by decide)
    refine ⟨_, (pss_cons (ps_set (i := 1) sc_read_signs.nd rfl (Or.inl rfl) (pe_lst pa_nil)) 
    (pss_cons (ps_set (i := 2) sc_read_signs.nd rfl (Or.inl rfl) pe_int) 
    (pss_cons (ps_set (i := 3) sc_read_signs.nd rfl (Or.inl rfl) pe_int) 
    (pss_cons (ps_set (i := 4) sc_read_signs.nd rfl (Or.inl rfl) pe_int) 
    (pss_cons (ps_while (passes_of rfl) (pt_cmpR op_lt (pv 2) (pe_callB call_len_str (by rfl) T.b_len (by decide +kernel) (pa_cons (pv 0) pa_nil)) (nomark _)) 
      (pss_one (ps_if (pt_cmpR op_eq (pe_ix ix_str (pv 0) (pv 2) (fun _ _ => rfl)) pe_str (nomark _)) 
        (pss_cons (ps_aug (i := 2) sc_read_signs.nd rfl (Or.inl rfl) pe_int ip_add) 
        (pss_cons (ps_aug (i := 3) sc_read_signs.nd rfl (Or.inl rfl) pe_int ip_add) 
        (pss_one (ps_set (i := 4) sc_read_signs.nd rfl (Or.inl rfl) (pv 2))))) 
        (pss_one (ps_if (pt_cmpR op_in_sign (pe_ix ix_str (pv 0) (pv 2) (fun _ _ => rfl)) pe_str (by rfl)) 
          (pss_one (ps_aug (i := 2) sc_read_signs.nd rfl (Or.inl rfl) pe_int ip_add)) 
          (pss_cons (ps_asg (pe_callS G_sign_at hr (by rfl) T.g_sign_at T.F_sign_at.kp T.B_sign_at (fun σ => L2N.passAt (L2N.takes_of rfl rfl rfl rfl) σ) (pa_cons (pv 0) (pa_cons (pv 2) (pa_cons (pv 3) (pa_cons (pe_op op_add (pe_op op_sub (pv 2) (pv 4)) pe_int) pa_nil))))) (pg_tup rfl (pgs_cons (pg_name (i := 5) sc_read_signs.nd rfl (Or.inl rfl)) (pgs_cons (pg_name (i := 6) sc_read_signs.nd rfl (Or.inl rfl)) pgs_nil)))) 
          (pss_cons (ps_set (i := 7) sc_read_signs.nd rfl (Or.inl rfl) (pe_ifExp (pt_cmpR op_eq (pv 5) pe_str (nomark _)) (pe_callTy call_int_str (by rfl) T.b_int (by decide +kernel) (pa_cons (pv 6) pa_nil)) (pv 6))) 
          (pss_cons (ps_expr (pe_bm PySem.F.plainAttrs_list PySem.F.slot_list_append PySem.F.type_list_append mt_append (pv 1) (pa_cons (pe_tup (pa_cons (pv 5) (pa_cons (pv 7) (pa_cons (pv 3) (pa_cons (pe_op op_add (pe_op op_sub (pv 2) (pv 4)) pe_int) pa_nil))))) pa_nil))) 
          (pss_one (ps_aug (i := 2) sc_read_signs.nd rfl (Or.inl rfl) (pe_callB call_len_str (by rfl) T.b_len (by decide +kernel) (pa_cons (pv 6) pa_nil)) ip_add)))))))))) 
    (pss_one (ps_ret (pv 1)))))))), ?_⟩
    walk_at "wp"
    refine ⟨Nat.zero_le _, fun sl nsl => ?_⟩
    have eNL : Str.ofString "\n" = ⟨#[10]⟩ := by decide +kernel
    have eBT : (Str.ofString " \t").cps.toList = [32, 9] := by decide +kernel
    rcases hm with ⟨sgs, hn, hL, q⟩ | ⟨L, Cc, wr, hF, q⟩
    · obtain ⟨W, hW⟩ : ∃ W : Nat → St → Hp → Prop, ∀ m σ H', W m σ H' ↔ ∃ (at_ line ls : Nat) (acc : List (Addr × Sg)) (rest : List Sg) (v5 v6 v7 : Option V), m = (tl z).length - at_ ∧ at_ ≤ (tl z).length ∧ ls ≤ at_ ∧ line ≤ at_ + 1 ∧ Lex ((tl z).drop at_) line (at_ - ls + 1) rest ∧
        Same H H' ∧ H' sl = some (.lst (acc.map fun p => V.ref p.1)) ∧ (∀ p ∈ acc, H' p.1 = some (.tup p.2.tup)) ∧ acc.map (·.2) ++ rest = sgs ∧
        σ = [some (V.str z), some (V.ref sl), some (V.int (at_ : Int)), some (V.int (line : Int)), some (V.int (ls : Int)), v5, v6, v7] := ⟨_, fun _ _ _ => Iff.rfl⟩
      refine loopw W _ ((hW _ _ _).mpr ⟨0, 1, 0, [], sgs, none, none, none, rfl, Nat.zero_le _, Nat.le_refl _, Nat.le_refl _, hL, same_upd nsl, upd_same, fun _ h => (by cases h), rfl, rfl⟩) ?_
      intro m σ H1 hw
      obtain ⟨at_, line, ls, acc, rest, v5, v6, v7, rfl, ha, hls, hle, hLx, s1, eA, hA, hs, rfl⟩ := (hW _ _ _).mp hw
      have hzl := len_tl z
      walk_at "wp"
      refine ⟨big _ hz, ?_⟩
      by_cases hb : at_ < (tl z).length
      · rw [if_pos (decide_eq_true (by rw [len_tl]; omega))]
        rw [List.drop_eq_getElem_cons hb] at hLx
        refine turn_of ?_
        walk_at "wp"
        refine ⟨big _ hz, (tl z)[at_], atI_nat (List.getElem?_eq_getElem hb), ?_⟩
        have hx0 : atI z.cps.toList (at_ : Int) = some (tl z)[at_] := atI_nat (xs := tl z) (List.getElem?_eq_getElem hb)
        have hdr : (tl z).drop at_ = (tl z)[at_] :: (tl z).drop (at_ + 1) := List.drop_eq_getElem_cons hb
        have hlr : ((tl z).drop (at_ + 1)).length = (tl z).length - (at_ + 1) := List.length_drop
        generalize ex : (tl z)[at_] = x at hLx hx0 hdr
        generalize er : (tl z).drop (at_ + 1) = r at hLx hdr hlr
        rw [eNL]
        cases hLx with
        | nl h =>
          rw [if_pos (decide_eq_true rfl)]
          exact ⟨_, by omega, (hW _ _ _).mpr ⟨at_ + 1, line + 1, at_ + 1, acc, rest, v5, v6, v7, rfl, by omega, Nat.le_refl _, by omega, by rw [er, Nat.sub_self]; exact h, s1, eA, hA, hs, by simp only [Int.natCast_add, Int.natCast_one]⟩⟩
        | sp hx h =>
          rw [if_neg (by rw [decide_eq_true_eq, sgn_eq]; omega)]
          refine ⟨big _ hz, x, hx0, ?_⟩
          rw [eBT, if_pos (decide_eq_true (by simp; omega))]
          exact ⟨_, by omega, (hW _ _ _).mpr ⟨at_ + 1, line, ls, acc, rest, v5, v6, v7, rfl, by omega, by omega, by omega, by rw [er, show at_ + 1 - ls + 1 = at_ - ls + 1 + 1 by omega]; exact h, s1, eA, hA, hs, by simp only [Int.natCast_add, Int.natCast_one]⟩⟩
        | sg n s0 k y vv n1 n2 n3 hS h1 h2 hy hv h =>
          rw [if_neg (by rw [decide_eq_true_eq, sgn_eq]; omega)]
          refine ⟨big _ hz, x, hx0, ?_⟩
          rw [eBT, if_neg (by simp; omega)]
          refine ⟨A.xC, z, at_, line, at_ - ls + 1, by rw [Int.natCast_add, Int.ofNat_sub hls]; rfl, hz, by omega, by omega, by omega, T.tf.g0, .inl ⟨_, _, by rw [hdr]; exact hS, fun H3 t y' s3 e3 hy' => ?_⟩⟩
          rw [hdr, ← hy] at hy'
          have eyy := ext_tl hy'
          subst eyy
          walk_at "wp"
          refine ⟨_, SqT.of e3, rfl, _, _, rfl, _, _, rfl, rfl, ?_⟩
          walk_at "wp"
          have eS := s3 _ _ eA
          have ty : tyV K "list" (V.ref sl) H3 := .inl ⟨rfl, _, SqL.of eS⟩
          have ecol : (at_ : Int) - (ls : Int) + 1 = ((at_ - ls + 1 : Nat) : Int) := by rw [Int.natCast_add, Int.ofNat_sub hls]; rfl
          have hln : y'.length = n := by
            rw [len_tl, hy, List.length_take, List.length_cons]
            omega
          have hacc : acc.length ≤ 900 := by
            have e := congrArg List.length hs
            rw [List.length_append, List.length_map] at e
            omega
          have fin : ∀ u : V, u = vv → tyV K "list" (V.ref sl) H3 ∧ 4 ≤ sizeLine ∧ ∀ (p : Addr), H3 p = none → ∃ x, upd H3 p (.tup [V.str k, u, V.int (line : Int), V.int ((at_ : Int) - (ls : Int) + 1)]) sl = some (.lst x) ∧ x.length < sizeLine ∧ y'.length ≤ sizeLine ∧
              ∃ m', m' < (tl z).length - at_ ∧ W m' [some (V.str z), some (V.ref sl), some (V.int ((at_ : Int) + (y'.length : Int))), some (V.int (line : Int)), some (V.int (ls : Int)), some (V.str k), some (V.str y'), some u]
                (upd (upd H3 p (.tup [V.str k, u, V.int (line : Int), V.int ((at_ : Int) - (ls : Int) + 1)])) sl (.lst (x ++ [V.ref p]))) := by
            rintro u rfl
            refine ⟨ty, by decide, fun p np => ?_⟩
            have nps : sl ≠ p := ne_of_none eS np
            have s4 := same_upd (o := .tup [V.str k, u, V.int (line : Int), V.int ((at_ : Int) - (ls : Int) + 1)]) np
            refine ⟨_, s4 _ _ eS, small1000 (by rw [List.length_map]; omega), big _ (by have := len_tl z; omega), (tl z).length - (at_ + n), by omega, (hW _ _ _).mpr ⟨at_ + n, line, ls, acc ++ [(p, ⟨k, u, line, at_ - ls + 1⟩)], s0, some (V.str k), some (V.str y'), some u, rfl, by omega, by omega, by omega, ?_, ?_, ?_, ?_, ?_, ?_⟩⟩
            · rw [← List.drop_drop, hdr, show at_ + n - ls + 1 = at_ - ls + 1 + n by omega]
              exact h
            · exact same_upd2 ((s1.trans s3).trans s4) nsl
            · rw [upd_same, List.map_append]
              rfl
            · intro pp hp
              rcases List.mem_append.mp hp with hp | hp
              · have e := s4 _ _ (s3 _ _ (hA _ hp))
                rw [upd_ne (ne_of e (s4 _ _ eS) (by intro z; cases z))]
                exact e
              · rw [List.mem_singleton.mp hp, upd_ne nps.symm, upd_same, Sg.tup, ecol]
            · rw [List.map_append, ← hs, List.append_assoc]
              rfl
            · rw [hln, Int.natCast_add]
          cases hv with
          | num _ m hm hl6 =>
            rw [if_pos (decide_eq_true rfl)]
            exact ⟨m, hm, hl6, fin _ rfl⟩
          | oth _ _ hk =>
            rw [if_neg (by rw [decide_eq_true_eq]; exact hk)]
            exact fin _ rfl
      · rw [if_neg (by rw [decide_eq_true_eq, len_tl]; omega)]
        rw [List.drop_eq_nil_of_le (show (tl z).length ≤ at_ by omega)] at hLx
        cases hLx
        rw [List.append_nil] at hs
        exact q _ _ acc s1 eA nsl hs hA
    · obtain ⟨W, hW⟩ : ∃ W : Nat → St → Hp → Prop, ∀ m σ H', W m σ H' ↔ ∃ (at_ line ls : Nat) (xs : List V) (v5 v6 v7 : Option V), m = (tl z).length - at_ ∧ at_ ≤ (tl z).length ∧ ls ≤ at_ ∧ line ≤ at_ + 1 ∧ LexF ((tl z).drop at_) line (at_ - ls + 1) L Cc wr ∧
        Same H H' ∧ H' sl = some (.lst xs) ∧ xs.length ≤ at_ ∧ σ = [some (V.str z), some (V.ref sl), some (V.int (at_ : Int)), some (V.int (line : Int)), some (V.int (ls : Int)), v5, v6, v7] := ⟨_, fun _ _ _ => Iff.rfl⟩
      refine loopw W _ ((hW _ _ _).mpr ⟨0, 1, 0, [], none, none, none, rfl, Nat.zero_le _, Nat.le_refl _, Nat.le_refl _, hF, same_upd nsl, upd_same, Nat.le_refl _, rfl⟩) ?_
      intro m σ H1 hw
      obtain ⟨at_, line, ls, xs, v5, v6, v7, rfl, ha, hls, hle, hLx, s1, eA, hA, rfl⟩ := (hW _ _ _).mp hw
      walk_at "wp"
      refine ⟨big _ hz, ?_⟩
      by_cases hb : at_ < (tl z).length
      · rw [if_pos (decide_eq_true (by rw [len_tl]; omega))]
        rw [List.drop_eq_getElem_cons hb] at hLx
        have hzl := len_tl z
        refine turn_of ?_
        walk_at "wp"
        refine ⟨big _ hz, (tl z)[at_], atI_nat (List.getElem?_eq_getElem hb), ?_⟩
        have hx0 : atI z.cps.toList (at_ : Int) = some (tl z)[at_] := atI_nat (xs := tl z) (List.getElem?_eq_getElem hb)
        have hdr : (tl z).drop at_ = (tl z)[at_] :: (tl z).drop (at_ + 1) := List.drop_eq_getElem_cons hb
        have hlr : ((tl z).drop (at_ + 1)).length = (tl z).length - (at_ + 1) := List.length_drop
        generalize ex : (tl z)[at_] = x at hLx hx0 hdr
        generalize er : (tl z).drop (at_ + 1) = r at hLx hdr hlr
        rw [eNL]
        cases hLx with
        | nl h =>
          rw [if_pos (decide_eq_true rfl)]
          exact ⟨_, by omega, (hW _ _ _).mpr ⟨at_ + 1, line + 1, at_ + 1, xs, v5, v6, v7, rfl, by omega, Nat.le_refl _, by omega, by rw [er, Nat.sub_self]; exact h, s1, eA, by omega, by simp only [Int.natCast_add, Int.natCast_one]⟩⟩
        | sp hx h =>
          rw [if_neg (by rw [decide_eq_true_eq, sgn_eq]; omega)]
          refine ⟨big _ hz, x, hx0, ?_⟩
          rw [eBT, if_pos (decide_eq_true (by simp; omega))]
          exact ⟨_, by omega, (hW _ _ _).mpr ⟨at_ + 1, line, ls, xs, v5, v6, v7, rfl, by omega, by omega, by omega, by rw [er, show at_ + 1 - ls + 1 = at_ - ls + 1 + 1 by omega]; exact h, s1, eA, by omega, by simp only [Int.natCast_add, Int.natCast_one]⟩⟩
        | here n1 n2 n3 hS =>
          rw [if_neg (by rw [decide_eq_true_eq, sgn_eq]; omega)]
          refine ⟨big _ hz, x, hx0, ?_⟩
          rw [eBT, if_neg (by simp; omega)]
          exact ⟨A.xC, z, at_, _, at_ - ls + 1, by rw [Int.natCast_add, Int.ofNat_sub hls]; rfl, hz, by omega, by omega, by omega, T.tf.g0, .inr ⟨_, _, by rw [hdr]; exact hS, fun H3 d s3 hd e3 => q H3 d (s1.trans s3) (s1.free hd) e3⟩⟩
        | sg n k y vv n1 n2 n3 hS h1 h2 hy hv h =>
          rw [if_neg (by rw [decide_eq_true_eq, sgn_eq]; omega)]
          refine ⟨big _ hz, x, hx0, ?_⟩
          rw [eBT, if_neg (by simp; omega)]
          refine ⟨A.xC, z, at_, line, at_ - ls + 1, by rw [Int.natCast_add, Int.ofNat_sub hls]; rfl, hz, by omega, by omega, by omega, T.tf.g0, .inl ⟨_, _, by rw [hdr]; exact hS, fun H3 t y' s3 e3 hy' => ?_⟩⟩
          rw [hdr, ← hy] at hy'
          have eyy := ext_tl hy'
          subst eyy
          walk_at "wp"
          refine ⟨_, SqT.of e3, rfl, _, _, rfl, _, _, rfl, rfl, ?_⟩
          walk_at "wp"
          have eS := s3 _ _ eA
          have ty : tyV K "list" (V.ref sl) H3 := .inl ⟨rfl, _, SqL.of eS⟩
          have hln : y'.length = n := by
            rw [len_tl, hy, List.length_take, List.length_cons]
            omega
          have fin : ∀ u : V, tyV K "list" (V.ref sl) H3 ∧ 4 ≤ sizeLine ∧ ∀ (p : Addr), H3 p = none → ∃ x, upd H3 p (.tup [V.str k, u, V.int (line : Int), V.int ((at_ : Int) - (ls : Int) + 1)]) sl = some (.lst x) ∧ x.length < sizeLine ∧ y'.length ≤ sizeLine ∧
              ∃ m', m' < (tl z).length - at_ ∧ W m' [some (V.str z), some (V.ref sl), some (V.int ((at_ : Int) + (y'.length : Int))), some (V.int (line : Int)), some (V.int (ls : Int)), some (V.str k), some (V.str y'), some u]
                (upd (upd H3 p (.tup [V.str k, u, V.int (line : Int), V.int ((at_ : Int) - (ls : Int) + 1)])) sl (.lst (x ++ [V.ref p]))) := by
            intro u
            refine ⟨ty, by decide, fun p np => ?_⟩
            have s4 := same_upd (o := .tup [V.str k, u, V.int (line : Int), V.int ((at_ : Int) - (ls : Int) + 1)]) np
            refine ⟨_, s4 _ _ eS, Nat.lt_of_le_of_lt (show xs.length ≤ 1000000 by omega) (by decide), big _ (by omega), (tl z).length - (at_ + n), by omega, (hW _ _ _).mpr ⟨at_ + n, line, ls, xs ++ [V.ref p], some (V.str k), some (V.str y'), some u, rfl, by omega, by omega, by omega, ?_, same_upd2 ((s1.trans s3).trans s4) nsl, upd_same, by rw [List.length_append, List.length_singleton]; omega, by rw [hln, Int.natCast_add]⟩⟩
            rw [← List.drop_drop, hdr, show at_ + n - ls + 1 = at_ - ls + 1 + n by omega]
            exact h
          cases hv with
          | num _ m hm hl6 =>
            rw [if_pos (decide_eq_true rfl)]
            exact ⟨m, hm, hl6, fin _⟩
          | oth _ _ hk =>
            rw [if_neg (by rw [decide_eq_true_eq]; exact hk)]
            exact fin _
      · rw [List.drop_eq_nil_of_le (show (tl z).length ≤ at_ by omega)] at hLx
        cases hLx
end
local macro_rules | `(tactic| walk_at "wp") => `(tactic| simp only [tSeq, tAsg, gName, gTup, gCons, gNil, tVar, tC, tOp, tUn, rI, rI0, rU, tCB, tCons, tNil, tIfS, tRet, tRetN, tNext, tNever, test_eq, tB, tTup, tLst, tCall, tCallS, tIf, tAndV, tOrV, tNotV, tNot, tAnd, tOr, rEq, rNe, scal_ii, scal_ss, scal_bb, dec_ii, dec_ss, dec_bb, for_eq, lc_eq, while_eq, tDrop, tYes, iList, iTup, iStr, iRng1, iRng2, RZ.iZipA, L2.start, rIxL, rIxT, rIxS, rSlS, cxK, tSl, tPart, tNoPart, tBM, tBM0, rAppend, rExtend, rRepS, gSub, rSetL, tAug, ipI, rAdd, rSub, tM1, tM0,
  List.map_cons, List.map_nil, List.length_cons, List.length_nil, List.cons_append, List.nil_append, List.append_nil, List.getElem?_cons_succ, List.getElem?_cons_zero, List.set_cons_succ, List.set_cons_zero, Nat.reduceAdd, Nat.reduceSub, List.replicate_succ, List.replicate_zero, wipe,
  Option.some.injEq, V.int.injEq, V.str.injEq, sgn_eq, V.ref.injEq, V.bl.injEq, exists_eq_left, exists_eq_left', exists_and_left, exists_eq_right, List.cons.injEq, and_true, true_and, ex_bl, ex_int, exists_const, Nat.zero_add, Int.toNat_natCast, Int.zero_add, and_assoc, reduceCtorEq, false_and, and_false, exists_false, or_false, false_or, eq_self, decide_true, decide_false, ite_true, ite_false, if_true, if_false, Bool.false_eq_true, Bool.not_true, Bool.not_false, ↓reduceIte])
section
variable {w : World} {K : PySem.W.Frag} {mg : Str → Option Value} {base : Heap} {A : Ad}
def sp_law_is_integer (K : PySem.W.Frag) : Sp := fun vs H Q _ => ∃ i : Int, vs = [.int i] ∧ Q (.bl true) H
def sp_law_fault (K : PySem.W.Frag) : Sp := fun vs H Q _ => ∃ z : Str, vs = [.str z] ∧ z.length ≤ 1000000 ∧
  ((∃ s : List Sg, s.length ≤ 900 ∧ Lex (tl z) 1 1 s ∧ ∀ H', Same H H' → Q (.str "read") H') ∨
   (∃ (L Cc : Nat) (r : Str), LexF (tl z) 1 1 L Cc r ∧ ∀ H' t, Same H H' → H' t = some (.tup [.int (L : Int), .int (Cc : Int), .str r]) → Q (.ref t) H'))
theorem hot_of {X : Cx} {a : Addr} {oe : Obj} {cls : Value} {d : Option Addr} {pn : List (Addr × Obj)} (hz : L2N.Zn cls d oe) (hf : ∃ vs, oe.data = .fields vs) : L2H.HotC (X.suite a ((a, oe) :: pn)) := by
  obtain ⟨vs, hv⟩ := hf
  exact ⟨(a, oe), ⟨rfl, vs, hv, hz.2.2 vs hv⟩, List.mem_cons_self⟩
theorem roomH_suite {X : Cx} {a : Addr} {pn : List (Addr × Obj)} {j k : Nat} (hr : Room j X.A) (h : k ≤ j) : L2H.RoomH k (X.suite a pn).A :=
  ⟨by have := hr.dp; show X.A.depth + 3 * k + 5 < _; omega, by have := hr.un; show X.A.units + 16 * k + 200 < _; omega⟩
theorem xfs_line (l c : Nat) (r : Str) : (xfs l c r).lookup ("line" : Str) = some (.int (l : Int)) := by
  simp [xfs, List.lookup, show (("line" : Str) == ("reason" : Str)) = false by decide +kernel, show (("line" : Str) == ("column" : Str)) = false by decide +kernel]
theorem xfs_column (l c : Nat) (r : Str) : (xfs l c r).lookup ("column" : Str) = some (.int (c : Int)) := by
  simp [xfs, List.lookup, show (("column" : Str) == ("reason" : Str)) = false by decide +kernel]
theorem xfs_reason (l c : Nat) (r : Str) : (xfs l c r).lookup ("reason" : Str) = some (.str r) := by
  simp [xfs, List.lookup]
theorem okH_law_is_integer (T : Txt K mg A) : L2H.FnH P w K mg base CX0 1 A.f_law_is_integer A.d_law_is_integer ["_law_actual"] (sp_law_is_integer K) := by
  refine T.F_law_is_integer.okH sc_law_is_integer (fun vs H Q E h => ?_) (fun cdv A' outer s H vs Q E p hr h => ?_)
  · obtain ⟨i, rfl, _⟩ := h
    rfl
  · obtain ⟨i, rfl, q⟩ := h
    refine ⟨_, (pss_one (ps_ret (pe_and (pe_callB call_isi (by rfl) T.b_isinstance (by decide +kernel) (pa_cons (pv 0) (pa_cons (pe_bltn (v := .ty "int") (by rfl) T.b_int (by decide +kernel) rfl) pa_nil))) (pe_one (pe_not (pe_callB call_isi (by rfl) T.b_isinstance (by decide +kernel) (pa_cons (pv 0) (pa_cons (pe_bltn (v := .ty "bool") (by rfl) T.b_bool (by decide +kernel) rfl) pa_nil)))))))), ?_⟩
    walk_at "wp"
    refine isi ty_int (r := true) (by decide +kernel) ?_
    walk_at "wp"
    refine isi ty_int (r := false) (by decide +kernel) ?_
    walk_at "wp"
    exact q
theorem ok_law_fault (T : Txt K mg A) : FnOk P w K mg base CX0 5 A.f_law_fault A.d_law_fault ["_law_text"] (sp_law_fault K) := by
  have G_read_signs := ok_read_signs (w := w) (base := base) T
  have GH := okH_law_is_integer (w := w) (base := base) T
  refine T.F_law_fault.ok sc_law_fault (fun vs H Q E h => ?_) (fun cdv A' outer s H vs Q E hr h => ?_)
  · obtain ⟨z, rfl, _⟩ := h
    rfl
  · obtain ⟨z, rfl, hz, hm⟩ := h
    refine ⟨_, pss_cons (L2N.ps_try_as (i := 1) rfl rfl sc_law_fault.nd rfl rfl ⟨rfl, by decide, .inl T.tf.g⟩ takesN0
      (fun W pn xe tk _ => pss_one (ps_expr (pe_callS G_read_signs hr (by rfl) T.g_read_signs T.F_read_signs.kp T.B_read_signs (fun σ => L2N.passAt tk σ) (pa_cons (pv 0) pa_nil))))
      (fun a oe cls d pn hz hf => pss_cons (ps_if (PW.pt (pw_or (pt_not (pt_val (pe_callB (call_isD T.ec hz.zc hf) (by rfl) T.b_isinstance (by decide +kernel) (pa_cons (pv 1) (pa_cons (pe_glob (v := .ref A.xW) rfl T.gW rfl) pa_nil)))))
          (pw_or (pt_not (pt_val (pe_callB (call_isD T.ec hz.zc hf) (by rfl) T.b_isinstance (by decide +kernel) (pa_cons (pv 1) (pa_cons (pe_bltn (v := .ty "ValueError") (by rfl) T.bVE (by decide +kernel) rfl) pa_nil)))))
            (pw_or1 (pt_val (pe_callB (call_isD T.ec hz.zc hf) (by rfl) T.b_isinstance (by decide +kernel) (pa_cons (pv 1) (pa_cons (pe_glob (v := .ref A.xT) rfl T.gT rfl) pa_nil)))))))) (pss_one (ps_ret pe_non)) pss_nil)
        (pss_cons (ps_if (PW.pt (pw_or (pt_not (pt_val (L2H.pe_callH GH (roomH_suite hr (by decide)) (hot_of hz hf) (by rfl) T.g_law_is_integer T.F_law_is_integer.kp T.B_law_is_integer (fun σ pins H s e s' I c => pass0 pins σ H s e s' I c) (pa_cons (pe_xf T.xx T.tf.n1 hz.zc hf (pv 1)) pa_nil))))
          (pw_or (pt_not (pt_val (L2H.pe_callH GH (roomH_suite hr (by decide)) (hot_of hz hf) (by rfl) T.g_law_is_integer T.F_law_is_integer.kp T.B_law_is_integer (fun σ pins H s e s' I c => pass0 pins σ H s e s' I c) (pa_cons (pe_xf T.xx T.tf.n2 hz.zc hf (pv 1)) pa_nil))))
            (pw_or1 (pt_not (pt_val (pe_callB (r := rIsi K) call_isi (by rfl) T.b_isinstance (by decide +kernel) (pa_cons (pe_xf T.xx T.tf.n3 hz.zc hf (pv 1)) (pa_cons (pe_bltn (v := .ty "str") (by rfl) T.b_str (by decide +kernel) rfl) pa_nil))))))))) (pss_one (ps_ret pe_non)) pss_nil)
        (pss_one (ps_ret (pe_tup (pa_cons (pe_xf T.xx T.tf.n1 hz.zc hf (pv 1)) (pa_cons (pe_xf T.xx T.tf.n2 hz.zc hf (pv 1)) (pa_cons (pe_xf T.xx T.tf.n3 hz.zc hf (pv 1)) pa_nil))))))))) (pss_one (ps_ret pe_str)), ?_⟩
    walk_at "wp"
    rcases hm with ⟨s0, hs, hL, q⟩ | ⟨L, Cc, r, hF, q⟩
    · exact ⟨A.xC, z, rfl, hz, T.tf.g0, .inl ⟨s0, hs, hL, fun H' t ags s1 _ _ _ _ => q H' s1⟩⟩
    · refine ⟨A.xC, z, rfl, hz, T.tf.g0, .inr ⟨L, Cc, r, hF, fun H' d s1 hd e => ⟨true, T.em, fun _ a na => ?_, fun z => nomatch z⟩⟩⟩
      rw [show [some (V.str z), (none : Option V)].set 1 (some (V.ref a)) = [some (V.str z), some (V.ref a)] from rfl]
      have fld : ∀ (f : Str) (v : V) (Q' : VK), (xfs L Cc r).lookup f = some v → Q' v H' → tXf a (Value.ref A.xC) (some d) A.xC f (tVar 1) [some (V.str z), some (V.ref a)] H' Q' := fun f v Q' hl hq => ⟨V.ref a, rfl, rfl, rfl, d, _, v, rfl, e, hl, hq⟩
      have l1 := xfs_line L Cc r
      have l2 := xfs_column L Cc r
      have l3 := xfs_reason L Cc r
      walk_at "wp"
      refine ⟨rfl, V.ref A.xW, .ref A.xW, true, d, _, rfl, fun u h => h, T.kW, rfl, e, ?_⟩
      walk_at "wp"
      refine ⟨rfl, V.ty "ValueError", .type "ValueError", true, d, _, rfl, fun u h => h, T.kV, rfl, e, ?_⟩
      walk_at "wp"
      refine ⟨rfl, V.ref A.xT, .ref A.xT, false, d, _, rfl, fun u h => h, T.kT, rfl, e, ?_⟩
      walk_at "wp"
      refine fld _ _ _ l1 ⟨_, rfl, ⟨_, rfl, ?_⟩⟩
      rw [if_neg (by decide)]
      refine fld _ _ _ l2 ⟨_, rfl, ⟨_, rfl, ?_⟩⟩
      rw [if_neg (by decide)]
      refine fld _ _ _ l3 (isi ty_str (r := true) (by decide +kernel) ⟨_, rfl, ?_⟩)
      rw [if_neg (by decide)]
      exact fld _ _ _ l1 (fld _ _ _ l2 (fld _ _ _ l3 ⟨by decide, fun t nt => q _ t (s1.trans (same_upd nt)) upd_same⟩))
end
local macro_rules | `(tactic| walk_at "wp") => `(tactic| simp only [tSeq, tAsg, gName, gTup, gCons, gNil, tVar, tC, tOp, tUn, rI, rI0, rU, tCB, tCons, tNil, tIfS, tRet, tRetN, tNext, tNever, test_eq, tB, tTup, tLst, tCall, tCallS, tIf, tAndV, tOrV, tNotV, tNot, tAnd, tOr, rEq, rNe, scal_ii, scal_ss, scal_bb, dec_ii, dec_ss, dec_bb, for_eq, lc_eq, while_eq, tDrop, tYes, iList, iTup, iStr, iRng1, iRng2, RZ.iZipA, L2.start, rIxL, rIxT, rIxS, rSlS, cxK, tSl, tPart, tNoPart, tBM, tBM0, rAppend, rExtend, rRepS, gSub, rSetL, tAug, ipI, rAdd, rSub, tM1, tM0,
  List.map_cons, List.map_nil, List.length_cons, List.length_nil, List.cons_append, List.nil_append, List.append_nil, List.getElem?_cons_succ, List.getElem?_cons_zero, List.set_cons_succ, List.set_cons_zero, Nat.reduceAdd, Nat.reduceSub, List.replicate_succ, List.replicate_zero, wipe,
  Option.some.injEq, V.int.injEq, V.str.injEq, sgn_eq, V.ref.injEq, V.bl.injEq, exists_eq_left, exists_eq_left', exists_and_left, exists_eq_right, List.cons.injEq, and_true, true_and, ex_bl, ex_int, exists_const, Nat.zero_add, Int.toNat_natCast, Int.zero_add, and_assoc, reduceCtorEq, false_and, and_false, exists_false, or_false, false_or, eq_self, decide_true, decide_false, ite_true, ite_false, if_true, if_false, Bool.false_eq_true, Bool.not_true, Bool.not_false, ↓reduceIte])
section
variable {w : World} {K : PySem.W.Frag} {mg : Str → Option Value} {base : Heap} {A : Ad}
def SIMP : List Str := [",", ";", ":", "[", "]", "(", ")", "{", "}", "+", "-", "*"]
/-- a piece: its kind and its text -/
inductive Piece : Str → Str → Prop where
  | word (y : Str) : IsWord 20 y → Piece "word" y
  | number (y : Str) : (∀ c ∈ tl y, isDigit c = true) → 1 ≤ y.length → y.length ≤ 9 → Piece "number" y
  | symbol (y : Str) : y ∈ SYMS → Piece "symbol" y
def touch : Option (Str × Str) → Str → Str → Bool
  | none, _, _ => true
  | some (lk, ly), k, y => if ly ∈ SIMP then true else if k = "symbol" then (!decide (lk = "symbol") || decide (y ∈ SIMP)) else (decide (lk = "symbol") || (decide (lk = "number") && decide (k = "word")))
def plc : Nat × Nat → List Nat → Nat × Nat
  | q, [] => q
  | q, c :: r => plc (if c = 10 then (q.1 + 1, 1) else (q.1, q.2 + 1)) r
theorem plc_app : ∀ (a b : List Nat) (q : Nat × Nat), plc q (a ++ b) = plc (plc q a) b
  | [], _, _ => rfl
  | c :: a, b, q => plc_app a b _
theorem plc_one (q : Nat × Nat) (c : Nat) : plc q [c] = if c = 10 then (q.1 + 1, 1) else (q.1, q.2 + 1) := rfl
theorem isL_mem {c : Nat} (h : isLetter c = true) : c ∈ tl LETT := by
  have hf : ∀ c < 123, isLetter c = true → c ∈ tl LETT := by decide +kernel
  refine hf c ?_ h
  unfold isLetter at h
  simp at h
  omega
theorem isD_mem {c : Nat} (h : isDigit c = true) : c ∈ tl DIGI := by
  have hf : ∀ c < 123, isDigit c = true → c ∈ tl DIGI := by decide +kernel
  refine hf c ?_ h
  unfold isDigit at h
  simp at h
  omega
theorem isW_mem {c : Nat} (h : isWordC c = true) : c ∈ tl WORC := by
  have hf : ∀ c < 123, isWordC c = true → c ∈ tl WORC := by decide +kernel
  refine hf c ?_ h
  unfold isWordC isLetter isDigit at h
  simp at h
  omega
theorem isL_nd {c : Nat} (h : isLetter c = true) : c ∉ tl DIGI := by
  have hf : ∀ x ∈ tl DIGI, isLetter x = false := by decide +kernel
  intro hc
  rw [hf c hc] at h
  cases h
theorem isD_nl {c : Nat} (h : isDigit c = true) : c ∉ tl LETT := by
  have hf : ∀ x ∈ tl LETT, isDigit x = false := by decide +kernel
  intro hc
  rw [hf c hc] at h
  cases h
theorem runL_app {chs : List Nat} : ∀ (a b : List Nat), (∀ c ∈ a, c ∈ chs) → runL chs (a ++ b) = a.length + runL chs b
  | [], b, _ => by rw [List.nil_append]; simp
  | c :: a, b, h => by
    rw [List.cons_append, runL_cons, if_pos (h c List.mem_cons_self), runL_app a b fun x hx => h x (List.mem_cons_of_mem _ hx), List.length_cons]
    omega
theorem runL_zero {chs : List Nat} {b : List Nat} (h : ∀ c r, b = c :: r → c ∉ chs) : runL chs b = 0 := by
  cases b with
  | nil => rfl
  | cons c r => rw [runL_cons, if_neg (h c r rfl)]
theorem symAt_cons (l : List Nat) (s : Str) (r : List Str) : symAt l (s :: r) = if l.take (tl s).length = tl s then some s else symAt l r := by
  rw [← len_tl]
  rfl
theorem symAt_hit {l : List Nat} {s : Str} {r : List Str} (h : l.take (tl s).length = tl s) : symAt l (s :: r) = some s := by rw [symAt_cons, if_pos h]
theorem symAt_miss {l : List Nat} {s : Str} {r : List Str} (h : l.take (tl s).length ≠ tl s) : symAt l (s :: r) = symAt l r := by rw [symAt_cons, if_neg h]
theorem sym_tls : SYMS.map tl = [[60, 61], [62, 61], [61, 61], [124, 124], [44], [59], [58], [91], [93], [40], [41], [123], [125], [61], [43], [45], [42], [60], [62]] := by decide +kernel
/-- the place among the symbols of the one that stands first -/
def symIx (l : List Nat) : List (List Nat) → Option Nat
  | [] => none
  | s :: r => if l.take s.length = s then some 0 else (symIx l r).map (· + 1)
theorem symAt_ix (l : List Nat) : ∀ ss : List Str, symAt l ss = (symIx l (ss.map tl)).bind fun i => ss[i]?
  | [] => rfl
  | s :: r => by
    rw [symAt_cons, symAt_ix l r, List.map_cons, symIx]
    split
    · rfl
    · cases symIx l (r.map tl) <;> rfl
theorem sym_of {y : Str} (hy : y ∈ SYMS) {rest : List Nat} (h : ∀ c r, rest = c :: r → y ∈ SIMP ∨ c ≠ 61) : symAt (tl y ++ rest) SYMS = some y := by
  rw [symAt_ix, sym_tls]
  have h2 : ∀ c r, rest = c :: r → tl y ∈ [[60], [61], [62]] → c ≠ 61 := fun c r e hm => by
    rcases h c r e with h | h
    · exact absurd hm ((show ∀ z ∈ SIMP, tl z ∉ [[60], [61], [62]] by decide +kernel) y h)
    · exact h
  obtain ⟨i, hi, e⟩ := List.getElem_of_mem hy
  have et : (SYMS.map tl)[i]? = some (tl y) := by
    rw [List.getElem?_map, List.getElem?_eq_getElem hi, e]
    rfl
  rw [sym_tls] at et
  have key : symIx (tl y ++ rest) [[60, 61], [62, 61], [61, 61], [124, 124], [44], [59], [58], [91], [93], [40], [41], [123], [125], [61], [43], [45], [42], [60], [62]] = some i := by
    have hi19 : i < 19 := hi
    generalize tl y = t at et h2
    cases rest with
    | nil =>
      clear h2 h
      rcases i with _|_|_|_|_|_|_|_|_|_|_|_|_|_|_|_|_|_|_|i
      all_goals first | (exfalso; omega) | (cases et; decide)
    | cons c r =>
      have h3 := h2 c r rfl
      rcases i with _|_|_|_|_|_|_|_|_|_|_|_|_|_|_|_|_|_|_|i
      all_goals first | (exfalso; omega) | (cases et; simp [symIx] at h3 ⊢ <;> first | exact h3 | omega)
  rw [key]
  show SYMS[i]? = some y
  rw [List.getElem?_eq_getElem hi, e]
/-- what may stand behind a piece with no blank between -/
def NextOk (k y : Str) (rest : List Nat) : Prop := ∀ c r, rest = c :: r → (k = "word" → c ∉ tl WORC) ∧ (k = "number" → c ∉ tl DIGI) ∧ (k = "symbol" → y ∈ SIMP ∨ c ≠ 61)
theorem kw_kn : (("word" : Str) = "number") = False := by decide +kernel
theorem kw_ks : (("word" : Str) = "symbol") = False := by decide +kernel
theorem kn_kw : (("number" : Str) = "word") = False := by decide +kernel
theorem kn_ks : (("number" : Str) = "symbol") = False := by decide +kernel
theorem ks_kw : (("symbol" : Str) = "word") = False := by decide +kernel
theorem ks_kn : (("symbol" : Str) = "number") = False := by decide +kernel
theorem wordC_facts {c : Nat} (h : isWordC c = true) : c ≠ 61 ∧ c ≠ 10 ∧ c ≠ 32 ∧ c ≠ 9 := by
  refine ⟨?_, ?_, ?_, ?_⟩ <;> intro e <;> rw [e] at h <;> revert h <;> decide
theorem letter_wordC {c : Nat} (h : isLetter c = true) : isWordC c = true := by unfold isWordC; rw [h]; rfl
theorem digit_wordC {c : Nat} (h : isDigit c = true) : isWordC c = true := by unfold isWordC; rw [h]; simp
theorem sym_head : ∀ s ∈ SYMS, ∃ c r, tl s = c :: r ∧ c ∉ tl WORC ∧ c ∉ tl LETT ∧ c ∉ tl DIGI ∧ c ≠ 10 ∧ c ≠ 32 ∧ c ≠ 9 ∧ (s ∈ SIMP → c ≠ 61) ∧ s.length ≤ 2 := fun s hs => by
  have h : ∀ s ∈ SYMS, (match tl s with
    | [] => False
    | c :: r => c ∉ tl WORC ∧ c ∉ tl LETT ∧ c ∉ tl DIGI ∧ c ≠ 10 ∧ c ≠ 32 ∧ c ≠ 9 ∧ (s ∈ SIMP → c ≠ 61) ∧ s.length ≤ 2) := by
    intro s hs
    have h2 : ∀ s ∈ SYMS, (match tl s with
      | [] => false
      | c :: r => decide (c ∉ tl WORC ∧ c ∉ tl LETT ∧ c ∉ tl DIGI ∧ c ≠ 10 ∧ c ≠ 32 ∧ c ≠ 9 ∧ (s ∈ SIMP → c ≠ 61) ∧ s.length ≤ 2)) = true := by decide +kernel
    have h3 := h2 s hs
    split at h3
    · cases h3
    · exact of_decide_eq_true h3
  have h := h s hs
  split at h
  · exact h.elim
  · rename_i c r e
    exact ⟨c, r, e, h⟩
/-- how a piece begins -/
theorem piece_head {k y : Str} (h : Piece k y) : (∃ c r, tl y = c :: r ∧ c ≠ 10 ∧ c ≠ 32 ∧ c ≠ 9 ∧ (k = "symbol" → c ∉ tl WORC ∧ c ∉ tl DIGI ∧ (y ∈ SIMP → c ≠ 61)) ∧ (k ≠ "symbol" → c ≠ 61) ∧ (k = "word" → c ∉ tl DIGI) ∧ y ∉ SIMP) ∨ ∃ c r, tl y = c :: r ∧ c ≠ 10 ∧ c ≠ 32 ∧ c ≠ 9 ∧ k = "symbol" ∧ c ∉ tl WORC ∧ c ∉ tl DIGI ∧ (y ∈ SIMP → c ≠ 61) := by
  have ns : ∀ c r, tl y = c :: r → isWordC c = true → y ∉ SIMP := fun c r e hc hs => by
    obtain ⟨c', r', e', h1, _⟩ := sym_head y ((show ∀ z ∈ SIMP, z ∈ SYMS by decide +kernel) y hs)
    rw [e] at e'
    cases e'
    exact h1 (isW_mem hc)
  cases h with
  | word _ hw =>
    obtain ⟨c, r, e, h1, h2, h3⟩ := hw
    have f := wordC_facts (letter_wordC h1)
    exact .inl ⟨c, r, e, f.2.1, f.2.2.1, f.2.2.2, fun z => absurd z (by rw [kw_ks]; exact id), fun _ => f.1, fun _ => isL_nd h1, ns c r e (letter_wordC h1)⟩
  | number _ hd h1 h9 =>
    obtain ⟨c, r, e⟩ : ∃ c r, tl y = c :: r := by
      cases e : tl y with
      | nil => rw [len_tl, e] at h1; cases h1
      | cons c r => exact ⟨c, r, rfl⟩
    have hc := hd c (by rw [e]; exact List.mem_cons_self)
    have f := wordC_facts (digit_wordC hc)
    exact .inl ⟨c, r, e, f.2.1, f.2.2.1, f.2.2.2, fun z => absurd z (by rw [kn_ks]; exact id), fun _ => f.1, fun z => absurd z (by rw [kn_kw]; exact id), ns c r e (digit_wordC hc)⟩
  | symbol _ hs =>
    obtain ⟨c, r, e, h1, h2, h3, h4, h5, h6, h7, _⟩ := sym_head y hs
    exact .inr ⟨c, r, e, h4, h5, h6, rfl, h1, h3, h7⟩
theorem lex_piece {k y : Str} {v : V} {rest : List Nat} {l c : Nat} {s : List Sg} (hp : Piece k y) (hv : ValOf k y v) (hn : NextOk k y rest) (h : Lex rest l (c + y.length) s) : Lex (tl y ++ rest) l c (⟨k, v, l, c⟩ :: s) := by
  have hdr : (tl y ++ rest).drop y.length = rest := by rw [len_tl]; simp
  have htk : (tl y ++ rest).take y.length = tl y := by rw [len_tl]; simp
  have mk : ∀ (x : Nat) (r : List Nat), tl y = x :: r → x ≠ 10 → x ≠ 32 → x ≠ 9 → SignOf (x :: r ++ rest) k y.length → Lex (tl y ++ rest) l c (⟨k, v, l, c⟩ :: s) := fun x r e h1 h2 h3 hS => by
    rw [e] at hdr htk ⊢
    rw [List.cons_append] at hdr htk hS ⊢
    have ly : y.length = r.length + 1 := by rw [len_tl, e, List.length_cons]
    refine Lex.sg y.length s k y v h1 h2 h3 hS (by omega) (by rw [List.length_append]; omega) (by rw [htk, e]) hv ?_
    rw [hdr]
    exact h
  cases hp with
  | word _ hw =>
    obtain ⟨x, r, e, h1, h2, h3⟩ := hw
    have f := wordC_facts (letter_wordC h1)
    have ly : y.length = r.length + 1 := by rw [len_tl, e, List.length_cons]
    have ha : ∀ z ∈ x :: r, z ∈ tl WORC := fun z hz => by
      rcases List.mem_cons.mp hz with h | h
      · rw [h]; exact isW_mem (letter_wordC h1)
      · exact isW_mem (h2 z h)
    have er : runL (tl WORC) (x :: r ++ rest) = y.length := by
      rw [runL_app _ _ ha, runL_zero (fun c r' e' => (hn c r' e').1 rfl), List.length_cons, ly]
    refine mk x r e f.2.1 f.2.2.1 f.2.2.2 ?_
    rw [← er]
    exact SignOf.word _ x (r ++ rest) rfl (isL_mem h1) (by rw [er]; omega)
  | number _ hd h1 h9 =>
    obtain ⟨x, r, e⟩ : ∃ c r, tl y = c :: r := by
      cases e : tl y with
      | nil => rw [len_tl, e] at h1; cases h1
      | cons c r => exact ⟨c, r, rfl⟩
    rw [e] at hd
    have hc := hd x List.mem_cons_self
    have f := wordC_facts (digit_wordC hc)
    have ly : y.length = r.length + 1 := by rw [len_tl, e, List.length_cons]
    have er : runL (tl DIGI) (x :: r ++ rest) = y.length := by
      rw [runL_app _ _ (fun z hz => isD_mem (hd z hz)), runL_zero (fun c r' e' => (hn c r' e').2.1 rfl), List.length_cons, ly]
    refine mk x r e f.2.1 f.2.2.1 f.2.2.2 ?_
    rw [← er]
    exact SignOf.number _ x (r ++ rest) rfl (isD_nl hc) (isD_mem hc) (by rw [er]; omega)
  | symbol _ hs =>
    obtain ⟨x, r, e, h1, h2, h3, h4, h5, h6, h7, _⟩ := sym_head y hs
    refine mk x r e h4 h5 h6 (SignOf.symbol _ x (r ++ rest) y rfl h2 h3 ?_)
    have es := sym_of hs (rest := rest) fun c r' e' => (hn c r' e').2.2 rfl
    rw [e] at es
    exact es
def BlankC (c : Nat) : Prop := c = 32 ∨ c = 9 ∨ c = 10
theorem lex_blanks {rest : List Nat} {s : List Sg} : ∀ (b : List Nat) (q : Nat × Nat), (∀ c ∈ b, BlankC c) → Lex rest (plc q b).1 (plc q b).2 s → Lex (b ++ rest) q.1 q.2 s
  | [], q, _, h => h
  | c :: b, q, hb, h => by
    have ih := fun q' => lex_blanks (rest := rest) (s := s) b q' fun x hx => hb x (List.mem_cons_of_mem _ hx)
    have hc := hb c List.mem_cons_self
    have e : plc q (c :: b) = plc (if c = 10 then (q.1 + 1, 1) else (q.1, q.2 + 1)) b := rfl
    rw [e] at h
    by_cases h10 : c = 10
    · rw [if_pos h10] at h
      subst h10
      exact Lex.nl (ih _ h)
    · rw [if_neg h10] at h
      have h2 : c = 32 ∨ c = 9 := by
        rcases hc with h | h | h
        · exact .inl h
        · exact .inr h
        · exact absurd h h10
      exact Lex.sp h2 (ih _ h)
/-! ### a text of pieces -/
structure Ent where
  b : Str
  k : Str
  y : Str
  v : V
structure EOk (e : Ent) : Prop where
  bl : ∀ c ∈ tl e.b, BlankC c
  bn : e.b.length ≤ 200
  pc : Piece e.k e.y
  va : ValOf e.k e.y e.v
def txt (es : List Ent) : List Nat := (es.map fun e => tl e.b ++ tl e.y).flatten
theorem txt_cons (e : Ent) (r : List Ent) : txt (e :: r) = tl e.b ++ (tl e.y ++ txt r) := by
  unfold txt
  rw [List.map_cons, List.flatten_cons, List.append_assoc]
theorem txt_snoc (es : List Ent) (e : Ent) : txt (es ++ [e]) = txt es ++ tl e.b ++ tl e.y := by
  unfold txt
  rw [List.map_append, List.flatten_append]
  simp
def sgs : Nat × Nat → List Ent → List Sg
  | _, [] => []
  | q, e :: r => ⟨e.k, e.v, (plc q (tl e.b)).1, (plc q (tl e.b)).2⟩ :: sgs (plc (plc q (tl e.b)) (tl e.y)) r
theorem sgs_snoc (e : Ent) : ∀ (es : List Ent) (q : Nat × Nat), sgs q (es ++ [e]) = sgs q es ++ [⟨e.k, e.v, (plc (plc q (txt es)) (tl e.b)).1, (plc (plc q (txt es)) (tl e.b)).2⟩]
  | [], q => rfl
  | f :: r, q => by
    rw [List.cons_append, sgs, sgs_snoc e r, txt_cons, plc_app, plc_app]
    rfl
theorem sgs_len : ∀ (es : List Ent) (q : Nat × Nat), (sgs q es).length = es.length
  | [], _ => rfl
  | e :: r, q => by rw [sgs, List.length_cons, List.length_cons, sgs_len r]
def Adj : Option (Str × Str) → List Ent → Prop
  | _, [] => True
  | la, e :: r => (tl e.b ≠ [] ∨ touch la e.k e.y = true) ∧ Adj (some (e.k, e.y)) r
def lastOf : Option (Str × Str) → List Ent → Option (Str × Str)
  | la, [] => la
  | _, e :: r => lastOf (some (e.k, e.y)) r
theorem lastOf_snoc (e : Ent) : ∀ (es : List Ent) (la : Option (Str × Str)), lastOf la (es ++ [e]) = some (e.k, e.y)
  | [], _ => rfl
  | _ :: r, _ => lastOf_snoc e r _
theorem adj_snoc (e : Ent) : ∀ (es : List Ent) (la : Option (Str × Str)), Adj la es → (tl e.b ≠ [] ∨ touch (lastOf la es) e.k e.y = true) → Adj la (es ++ [e])
  | [], _, _, h => ⟨h, trivial⟩
  | f :: r, _, h1, h => ⟨h1.1, adj_snoc e r _ h1.2 h⟩
theorem blank_next {c : Nat} (h : BlankC c) : c ∉ tl WORC ∧ c ∉ tl DIGI ∧ c ≠ 61 := by
  have f : ∀ c ∈ [32, 9, 10], c ∉ tl WORC ∧ c ∉ tl DIGI ∧ c ≠ 61 := by decide +kernel
  refine f c ?_
  rcases h with h | h | h <;> rw [h] <;> decide
theorem next_blank {k y : Str} {b rest : List Nat} (hb : ∀ c ∈ b, BlankC c) (hne : b ≠ []) : NextOk k y (b ++ rest) := by
  intro c r e
  cases b with
  | nil => exact absurd rfl hne
  | cons x b =>
    rw [List.cons_append] at e
    cases e
    have f := blank_next (hb _ List.mem_cons_self)
    exact ⟨fun _ => f.1, fun _ => f.2.1, fun _ => .inr f.2.2⟩
theorem next_touch {lk ly k y : Str} {rest : List Nat} (h1 : Piece lk ly) (h2 : Piece k y) (h : touch (some (lk, ly)) k y = true) : NextOk lk ly (tl y ++ rest) := by
  intro c r e
  have tq : touch (some (lk, ly)) k y = (if ly ∈ SIMP then true else if k = "symbol" then (!decide (lk = "symbol") || decide (y ∈ SIMP)) else (decide (lk = "symbol") || (decide (lk = "number") && decide (k = "word")))) := rfl
  rw [tq] at h
  have hl := piece_head h1
  obtain ⟨x, r', e', hx⟩ : ∃ x r', tl y = x :: r' ∧ (k = "symbol" ∧ x ∉ tl WORC ∧ x ∉ tl DIGI ∧ (y ∈ SIMP → x ≠ 61) ∨ k ≠ "symbol" ∧ x ≠ 61 ∧ (k = "word" → x ∉ tl DIGI)) := by
    rcases piece_head h2 with ⟨x, r', e', _, _, _, g1, g2, g3, _⟩ | ⟨x, r', e', _, _, _, g0, g1, g2, g3⟩
    · refine ⟨x, r', e', ?_⟩
      by_cases hk : k = "symbol"
      · exact .inl ⟨hk, g1 hk⟩
      · exact .inr ⟨hk, g2 hk, g3⟩
    · exact ⟨x, r', e', .inl ⟨g0, g1, g2, g3⟩⟩
  rw [e', List.cons_append] at e
  cases e
  have hls : ly ∈ SIMP → lk = "symbol" := fun hs => by
    rcases hl with ⟨_, _, _, _, _, _, _, _, _, z⟩ | ⟨_, _, _, _, _, _, z, _⟩
    · exact absurd hs z
    · exact z
  by_cases hs : ly ∈ SIMP
  · have e1 := hls hs
    subst e1
    exact ⟨fun z => absurd z (by rw [ks_kw]; exact id), fun z => absurd z (by rw [ks_kn]; exact id), fun _ => .inl hs⟩
  · rw [if_neg hs] at h
    rcases hx with ⟨rfl, hw, hd, h61⟩ | ⟨hk, h61, hd⟩
    · rw [if_pos rfl] at h
      refine ⟨fun _ => hw, fun _ => hd, fun z => .inr ?_⟩
      rw [z, decide_eq_true rfl] at h
      exact h61 (by simpa using h)
    · rw [if_neg hk] at h
      refine ⟨fun z => ?_, fun z => ?_, fun _ => .inr h61⟩
      · rw [z] at h
        simp only [kw_ks, kw_kn, decide_false, Bool.false_or, Bool.false_and, Bool.false_eq_true] at h
      · rw [z] at h
        simp only [kn_ks, decide_false, decide_true, Bool.false_or, Bool.true_and, decide_eq_true_eq] at h
        exact hd h
theorem next_of {k y : Str} (hp : Piece k y) {tail : List Nat} (ht : ∀ c ∈ tail, BlankC c) : ∀ es : List Ent, (∀ e ∈ es, EOk e) → Adj (some (k, y)) es → NextOk k y (txt es ++ tail)
  | [], _, _ => by
    cases tail with
    | nil => intro c r e; cases e
    | cons x t =>
      have h := next_blank (k := k) (y := y) (rest := []) ht (List.cons_ne_nil _ _)
      rw [List.append_nil] at h
      exact h
  | e :: r, ho, ha => by
    rw [txt_cons, List.append_assoc, List.append_assoc]
    have oe := ho e List.mem_cons_self
    by_cases hb : tl e.b = []
    · rw [hb, List.nil_append]
      exact next_touch hp oe.pc (ha.1.resolve_left fun h => h hb)
    · exact next_blank oe.bl hb
theorem plc_piece {k y : Str} (hp : Piece k y) (q : Nat × Nat) : plc q (tl y) = (q.1, q.2 + y.length) := by
  have h : ∀ c ∈ tl y, c ≠ 10 := by
    cases hp with
    | word _ hw =>
      obtain ⟨x, r, e, h1, h2, h3⟩ := hw
      rw [e]
      intro c hc
      rcases List.mem_cons.mp hc with h | h
      · rw [h]; exact (wordC_facts (letter_wordC h1)).2.1
      · exact (wordC_facts (h2 c h)).2.1
    | number _ hd h1 h9 => exact fun c hc => (wordC_facts (digit_wordC (hd c hc))).2.1
    | symbol _ hs => exact (show ∀ z ∈ SYMS, ∀ c ∈ tl z, c ≠ 10 by decide +kernel) y hs
  rw [len_tl]
  generalize tl y = l at h
  induction l generalizing q with
  | nil => rfl
  | cons c l ih =>
    have e : plc q (c :: l) = plc (if c = 10 then (q.1 + 1, 1) else (q.1, q.2 + 1)) l := rfl
    rw [e, if_neg (h c List.mem_cons_self), ih _ fun x hx => h x (List.mem_cons_of_mem _ hx), List.length_cons]
    simp only [Prod.mk.injEq, true_and]
    omega
theorem lex_main {tail : List Nat} (ht : ∀ c ∈ tail, BlankC c) : ∀ (es : List Ent) (la : Option (Str × Str)) (q : Nat × Nat), (∀ e ∈ es, EOk e) → Adj la es → Lex (txt es ++ tail) q.1 q.2 (sgs q es)
  | [], _, q, _, _ => by
    have h := lex_blanks (rest := []) (s := []) tail q ht (Lex.nil _ _)
    rw [List.append_nil] at h
    exact h
  | e :: r, la, q, ho, ha => by
    have oe := ho e List.mem_cons_self
    have or_ : ∀ x ∈ r, EOk x := fun x hx => ho x (List.mem_cons_of_mem _ hx)
    rw [txt_cons, List.append_assoc, List.append_assoc, sgs]
    refine lex_blanks _ _ oe.bl (lex_piece oe.pc oe.va (next_of oe.pc ht r or_ ha.2) ?_)
    have ih := lex_main ht r _ (plc (plc q (tl e.b)) (tl e.y)) or_ ha.2
    rw [plc_piece oe.pc] at ih ⊢
    exact ih
theorem num_val {y : Str} (hd : ∀ c ∈ tl y, isDigit c = true) (h1 : 1 ≤ y.length) (h9 : y.length ≤ 9) : ∃ m : Nat, PySem.intText? y = some (m : Int) := by
  refine ⟨_, intText_digits (x := y) (fun c hc => ?_) (fun e => ?_) (by omega)⟩
  · have h := hd c hc
    unfold isDigit at h
    simp at h
    exact h
  · have e2 : tl y = [] := e
    rw [len_tl, e2] at h1
    cases h1
theorem piece_len {k y : Str} (h : Piece k y) : 1 ≤ y.length ∧ y.length ≤ 20 := by
  cases h with
  | word _ hw =>
    obtain ⟨x, r, e, h1, h2, h3⟩ := hw
    rw [len_tl, e, List.length_cons]
    omega
  | number _ hd h1 h9 => omega
  | symbol _ hs => exact (show ∀ z ∈ SYMS, 1 ≤ z.length ∧ z.length ≤ 20 by decide +kernel) y hs
theorem txt_len : ∀ es : List Ent, (∀ e ∈ es, EOk e) → (txt es).length ≤ 220 * es.length
  | [], _ => Nat.le_refl _
  | e :: r, ho => by
    have oe := ho e List.mem_cons_self
    have ih := txt_len r fun x hx => ho x (List.mem_cons_of_mem _ hx)
    have h1 := oe.bn
    have h2 := (piece_len oe.pc).2
    rw [len_tl] at h1 h2
    rw [txt_cons, List.length_append, List.length_append, List.length_cons]
    omega
theorem num_piece {n : Nat} (h : n < 1000000000) : Piece "number" (Str.ofString (toString ((n : Nat) : Int))) ∧ ValOf "number" (Str.ofString (toString ((n : Nat) : Int))) (.int (n : Int)) := by
  have l9 := numL_len (n := n) (k := 9) (by decide) h
  have e : (Str.ofString (toString ((n : Nat) : Int))).length = (numL n).length := by rw [len_tl, tl_num]
  have h3 : 0 < (numL n).length := List.length_pos_iff.mpr (numL_ne n)
  refine ⟨.number _ (fun c hc => ?_) (by omega) (by omega), .num _ _ (int_num (by omega)) (by omega)⟩
  rw [tl_num] at hc
  have hd := numL_digits n c hc
  unfold isDigit
  simp
  exact hd
theorem piece_sign {k y : Str} {rest : List Nat} (hp : Piece k y) (hn : NextOk k y rest) : ∃ x r, tl y = x :: r ∧ x ≠ 10 ∧ x ≠ 32 ∧ x ≠ 9 ∧ SignOf (x :: (r ++ rest)) k y.length := by
  cases hp with
  | word _ hw =>
    obtain ⟨x, r, e, h1, h2, h3⟩ := hw
    have f := wordC_facts (letter_wordC h1)
    have ly : y.length = r.length + 1 := by rw [len_tl, e, List.length_cons]
    have ha : ∀ z ∈ x :: r, z ∈ tl WORC := fun z hz => by
      rcases List.mem_cons.mp hz with h | h
      · rw [h]; exact isW_mem (letter_wordC h1)
      · exact isW_mem (h2 z h)
    have er : runL (tl WORC) (x :: (r ++ rest)) = y.length := by
      rw [show x :: (r ++ rest) = (x :: r) ++ rest from rfl, runL_app _ _ ha, runL_zero (fun c r' e' => (hn c r' e').1 rfl), List.length_cons, ly]
    refine ⟨x, r, e, f.2.1, f.2.2.1, f.2.2.2, ?_⟩
    rw [← er]
    exact SignOf.word _ x (r ++ rest) rfl (isL_mem h1) (by rw [er]; omega)
  | number _ hd h1 h9 =>
    obtain ⟨x, r, e⟩ : ∃ c r, tl y = c :: r := by
      cases e : tl y with
      | nil => rw [len_tl, e] at h1; cases h1
      | cons c r => exact ⟨c, r, rfl⟩
    rw [e] at hd
    have hc := hd x List.mem_cons_self
    have f := wordC_facts (digit_wordC hc)
    have ly : y.length = r.length + 1 := by rw [len_tl, e, List.length_cons]
    have er : runL (tl DIGI) (x :: (r ++ rest)) = y.length := by
      rw [show x :: (r ++ rest) = (x :: r) ++ rest from rfl, runL_app _ _ (fun z hz => isD_mem (hd z hz)), runL_zero (fun c r' e' => (hn c r' e').2.1 rfl), List.length_cons, ly]
    refine ⟨x, r, e, f.2.1, f.2.2.1, f.2.2.2, ?_⟩
    rw [← er]
    exact SignOf.number _ x (r ++ rest) rfl (isD_nl hc) (isD_mem hc) (by rw [er]; omega)
  | symbol _ hs =>
    obtain ⟨x, r, e, h1, h2, h3, h4, h5, h6, h7, _⟩ := sym_head y hs
    refine ⟨x, r, e, h4, h5, h6, SignOf.symbol _ x (r ++ rest) y rfl h2 h3 ?_⟩
    have es := sym_of hs (rest := rest) fun c r' e' => (hn c r' e').2.2 rfl
    rw [e] at es
    exact es
theorem lexF_piece {k y : Str} {v : V} {rest : List Nat} {l c L C : Nat} {w : Str} (hp : Piece k y) (hv : ValOf k y v) (hn : NextOk k y rest) (h : LexF rest l (c + y.length) L C w) : LexF (tl y ++ rest) l c L C w := by
  obtain ⟨x, r, e, h1, h2, h3, hS⟩ := piece_sign hp hn
  have ly : y.length = r.length + 1 := by rw [len_tl, e, List.length_cons]
  rw [e, List.cons_append]
  refine LexF.sg y.length k y v h1 h2 h3 hS (by omega) (by rw [List.length_append]; omega) ?_ hv ?_
  · rw [e, ly, List.take_succ_cons, List.take_left]
  · rw [ly, List.drop_succ_cons, List.drop_left, ← ly]
    exact h
theorem lexF_blanks {rest : List Nat} {L C : Nat} {w : Str} : ∀ (b : List Nat) (q : Nat × Nat), (∀ c ∈ b, BlankC c) → LexF rest (plc q b).1 (plc q b).2 L C w → LexF (b ++ rest) q.1 q.2 L C w
  | [], q, _, h => h
  | c :: b, q, hb, h => by
    have ih := fun q' => lexF_blanks (rest := rest) (L := L) (C := C) (w := w) b q' fun x hx => hb x (List.mem_cons_of_mem _ hx)
    have hc := hb c List.mem_cons_self
    have e : plc q (c :: b) = plc (if c = 10 then (q.1 + 1, 1) else (q.1, q.2 + 1)) b := rfl
    rw [e] at h
    by_cases h10 : c = 10
    · rw [if_pos h10] at h
      subst h10
      exact LexF.nl (ih _ h)
    · rw [if_neg h10] at h
      have h2 : c = 32 ∨ c = 9 := by
        rcases hc with h | h | h
        · exact .inl h
        · exact .inr h
        · exact absurd h h10
      exact LexF.sp h2 (ih _ h)
theorem next_of2 {k y : Str} (hp : Piece k y) {tb rest : List Nat} (ht : ∀ c ∈ tb, BlankC c) (hne : tb ≠ []) : ∀ es : List Ent, (∀ e ∈ es, EOk e) → Adj (some (k, y)) es → NextOk k y (txt es ++ (tb ++ rest))
  | [], _, _ => by
    show NextOk k y (tb ++ rest)
    exact next_blank ht hne
  | e :: r, ho, ha => by
    rw [txt_cons, List.append_assoc, List.append_assoc]
    have oe := ho e List.mem_cons_self
    by_cases hb : tl e.b = []
    · rw [hb, List.nil_append]
      exact next_touch hp oe.pc (ha.1.resolve_left fun h => h hb)
    · exact next_blank oe.bl hb
theorem lexF_main {tb rest : List Nat} {L C : Nat} {w : Str} (ht : ∀ c ∈ tb, BlankC c) : ∀ (es : List Ent) (la : Option (Str × Str)) (q : Nat × Nat), (es = [] ∨ tb ≠ []) → (∀ e ∈ es, EOk e) → Adj la es → LexF rest (plc q (txt es ++ tb)).1 (plc q (txt es ++ tb)).2 L C w → LexF (txt es ++ (tb ++ rest)) q.1 q.2 L C w
  | [], _, q, _, _, _, h => lexF_blanks tb q ht h
  | e :: r, la, q, hne, ho, ha, h => by
    have oe := ho e List.mem_cons_self
    have or_ : ∀ x ∈ r, EOk x := fun x hx => ho x (List.mem_cons_of_mem _ hx)
    have htb : tb ≠ [] := hne.resolve_left (List.cons_ne_nil _ _)
    rw [txt_cons, List.append_assoc, List.append_assoc] at h ⊢
    refine lexF_blanks _ _ oe.bl (lexF_piece oe.pc oe.va (next_of2 oe.pc ht htb r or_ ha.2) ?_)
    rw [plc_app, plc_app] at h
    have ih := lexF_main ht r _ (plc (plc q (tl e.b)) (tl e.y)) (.inr htb) or_ ha.2 h
    rw [plc_piece oe.pc] at ih
    exact ih
/-! ### the law's faults -/
theorem sym_none {c : Nat} {rest : List Nat} (h : c ∉ [60, 62, 61, 124, 44, 59, 58, 91, 93, 40, 41, 123, 125, 43, 45, 42]) : symAt (c :: rest) SYMS = none := by
  rw [symAt_ix, sym_tls]
  have e : symIx (c :: rest) [[60, 61], [62, 61], [61, 61], [124, 124], [44], [59], [58], [91], [93], [40], [41], [123], [125], [61], [43], [45], [42], [60], [62]] = none := by
    simp at h
    simp [symIx, h]
  rw [e]
  rfl
theorem bar_none {c : Nat} {rest : List Nat} (h : c ≠ 124) : symAt (124 :: c :: rest) SYMS = none := by
  rw [symAt_ix, sym_tls]
  have e : symIx (124 :: c :: rest) [[60, 61], [62, 61], [61, 61], [124, 124], [44], [59], [58], [91], [93], [40], [41], [123], [125], [61], [43], [45], [42], [60], [62]] = none := by
    simp [symIx, h]
  rw [e]
  rfl
/-- a text whose beginning is a fault, whatever stands behind a blank -/
def WrongT (w : Str) (o : Nat) (rs : Str) : Prop := ∀ r' : List Nat, ∃ x r, tl w ++ 32 :: r' = x :: r ∧ x ≠ 10 ∧ x ≠ 32 ∧ x ≠ 9 ∧ FaultOf (x :: r) o rs
def CHS : List Nat := tl (Str.ofString "!\"#$&'./?@\\^_~" ++ Str.ofString "`")
theorem wrong_char {c : Nat} (h : c ∈ CHS) : WrongT ⟨#[c]⟩ 0 "unexpected character" := fun r' => by
  have hf : ∀ c ∈ CHS, c ≠ 10 ∧ c ≠ 32 ∧ c ≠ 9 ∧ c ∉ tl LETT ∧ c ∉ tl DIGI ∧ c ∉ [60, 62, 61, 124, 44, 59, 58, 91, 93, 40, 41, 123, 125, 43, 45, 42] := by decide +kernel
  obtain ⟨h1, h2, h3, h4, h5, h6⟩ := hf c h
  exact ⟨c, _, rfl, h1, h2, h3, .char _ c _ rfl h4 h5 (sym_none h6)⟩
theorem wrong_bar {s : Str} (h : s ∈ (["", " ", "x", "=", ";"] : List Str)) : WrongT (Str.ofString "|" ++ s) 0 "unexpected character" := fun r' => by
  have e1 : tl (Str.ofString "|") = [124] := by decide +kernel
  have hf : ∀ s ∈ (["", " ", "x", "=", ";"] : List Str), tl s = [] ∨ ∃ c, tl s = [c] ∧ c ≠ 124 := fun s hs => by
    have hd : ∀ s ∈ (["", " ", "x", "=", ";"] : List Str), tl s = [] ∨ (tl s).length = 1 ∧ (tl s).head? ≠ some 124 := by decide +kernel
    rcases hd s hs with h | ⟨h1, h2⟩
    · exact .inl h
    · match hx : tl s, h1 with
      | [c], _ => exact .inr ⟨c, rfl, fun z => h2 (by rw [hx, z]; rfl)⟩
  have h4 : (124 : Nat) ∉ tl LETT := by decide +kernel
  have h5 : (124 : Nat) ∉ tl DIGI := by decide +kernel
  rw [tl_append, e1]
  rcases hf s h with e | ⟨c, e, hc⟩
  · rw [e]
    exact ⟨124, _, rfl, by decide, by decide, by decide, .char _ 124 _ rfl h4 h5 (bar_none (by decide))⟩
  · rw [e]
    exact ⟨124, _, rfl, by decide, by decide, by decide, .char _ 124 _ rfl h4 h5 (bar_none hc)⟩
theorem wrong_name {n : Nat} (h1 : 21 ≤ n) (h2 : n ≤ 30) {w : Str} (e : tl w = (tl (Str.ofString "Q" ++ rep (Str.ofString "ab_9Z") 6)).take n) : WrongT w 20 "name too long" := fun r' => by
  have hl : (tl (Str.ofString "Q" ++ rep (Str.ofString "ab_9Z") 6)).length = 31 := by decide +kernel
  have hm : ∀ c ∈ tl (Str.ofString "Q" ++ rep (Str.ofString "ab_9Z") 6), c ∈ tl WORC := by decide +kernel
  obtain ⟨m, rfl⟩ : ∃ m, n = m + 1 := ⟨n - 1, by omega⟩
  have hh : ∃ r, tl (Str.ofString "Q" ++ rep (Str.ofString "ab_9Z") 6) = 81 :: r := ⟨(tl (Str.ofString "Q" ++ rep (Str.ofString "ab_9Z") 6)).tail, by decide +kernel⟩
  obtain ⟨r, er⟩ := hh
  generalize tl (Str.ofString "Q" ++ rep (Str.ofString "ab_9Z") 6) = l at *
  subst er
  rw [List.take_succ_cons] at e
  refine ⟨81, r.take m ++ 32 :: r', by rw [e]; rfl, by decide, by decide, by decide, .word _ 81 _ rfl (by decide +kernel) ?_⟩
  rw [show 81 :: (r.take m ++ 32 :: r') = (81 :: r.take m) ++ 32 :: r' from rfl, runL_app _ _ (fun c hc => hm c (by
    rcases List.mem_cons.mp hc with h | h
    · rw [h]; exact List.mem_cons_self
    · exact List.mem_cons_of_mem _ (List.mem_of_mem_take h))), List.length_cons, List.length_take]
  rw [List.length_cons] at hl
  omega
theorem wrong_number {n : Nat} (h1 : 10 ≤ n) (h2 : n ≤ 18) {w : Str} (e : tl w = (tl (Str.ofString "30" ++ rep (Str.ofString "1728") 5)).take n) : WrongT w 9 "number too long" := fun r' => by
  have hl : (tl (Str.ofString "30" ++ rep (Str.ofString "1728") 5)).length = 22 := by decide +kernel
  have hm : ∀ c ∈ tl (Str.ofString "30" ++ rep (Str.ofString "1728") 5), c ∈ tl DIGI := by decide +kernel
  obtain ⟨m, rfl⟩ : ∃ m, n = m + 1 := ⟨n - 1, by omega⟩
  have hh : ∃ r, tl (Str.ofString "30" ++ rep (Str.ofString "1728") 5) = 51 :: r := ⟨(tl (Str.ofString "30" ++ rep (Str.ofString "1728") 5)).tail, by decide +kernel⟩
  obtain ⟨r, er⟩ := hh
  generalize tl (Str.ofString "30" ++ rep (Str.ofString "1728") 5) = l at *
  subst er
  rw [List.take_succ_cons] at e
  refine ⟨51, r.take m ++ 32 :: r', by rw [e]; rfl, by decide, by decide, by decide, .number _ 51 _ rfl (by decide +kernel) (by decide +kernel) ?_⟩
  rw [show 51 :: (r.take m ++ 32 :: r') = (51 :: r.take m) ++ 32 :: r' from rfl, runL_app _ _ (fun c hc => hm c (by
    rcases List.mem_cons.mp hc with h | h
    · rw [h]; exact List.mem_cons_self
    · exact List.mem_cons_of_mem _ (List.mem_of_mem_take h))), List.length_cons, List.length_take]
  rw [List.length_cons] at hl
  omega
/-- a text of good pieces, each with a blank behind it -/
structure PlainT (z : Str) (n : Nat) : Prop where
  ex : ∃ (es : List Ent) (tb : List Nat), tl z = txt es ++ tb ∧ (∀ c ∈ tb, BlankC c) ∧ (es = [] ∨ tb ≠ []) ∧ (∀ e ∈ es, EOk e) ∧ Adj none es ∧ es.length ≤ n ∧ tb.length ≤ 3
  len : z.length ≤ 30 * n
end
local macro_rules | `(tactic| walk_at "wp") => `(tactic| simp only [tSeq, tAsg, gName, gTup, gCons, gNil, tVar, tC, tOp, tUn, rI, rI0, rU, tCB, tCons, tNil, tIfS, tRet, tRetN, tNext, tNever, test_eq, tB, tTup, tLst, tCall, tCallS, tIf, tAndV, tOrV, tNotV, tNot, tAnd, tOr, rEq, rNe, scal_ii, scal_ss, scal_bb, dec_ii, dec_ss, dec_bb, for_eq, lc_eq, while_eq, tDrop, tYes, iList, iTup, iStr, iRng1, iRng2, RZ.iZipA, L2.start, rIxL, rIxT, rIxS, rSlS, cxK, tSl, tPart, tNoPart, tBM, tBM0, rAppend, rExtend, rRepS, gSub, rSetL, tAug, ipI, rAdd, rSub, tM1, tM0,
  List.map_cons, List.map_nil, List.length_cons, List.length_nil, List.cons_append, List.nil_append, List.append_nil, List.getElem?_cons_succ, List.getElem?_cons_zero, List.set_cons_succ, List.set_cons_zero, Nat.reduceAdd, Nat.reduceSub, List.replicate_succ, List.replicate_zero, wipe,
  Option.some.injEq, V.int.injEq, V.str.injEq, sgn_eq, V.ref.injEq, V.bl.injEq, exists_eq_left, exists_eq_left', exists_and_left, exists_eq_right, List.cons.injEq, and_true, true_and, ex_bl, ex_int, exists_const, Nat.zero_add, Int.toNat_natCast, Int.zero_add, and_assoc, reduceCtorEq, false_and, and_false, exists_false, or_false, false_or, eq_self, decide_true, decide_false, ite_true, ite_false, if_true, if_false, Bool.false_eq_true, Bool.not_true, Bool.not_false, ↓reduceIte])
section
variable {w : World} {K : PySem.W.Frag} {mg : Str → Option Value} {base : Heap} {A : Ad}
def sp_law_place_after (K : PySem.W.Frag) : Sp := fun vs H Q _ => ∃ z : Str, vs = [.str z] ∧ z.length ≤ 1000000 ∧ ∀ H' t, Same H H' → H' t = some (.tup [.int ((plc (1, 1) (tl z)).1 : Int), .int ((plc (1, 1) (tl z)).2 : Int)]) → Q (.ref t) H'
def sp_law_plain (K : PySem.W.Frag) : Sp := fun vs H Q _ => ∃ (st d p : Addr) (n : Nat), vs = [.ref st, .int (n : Int)] ∧ Stm H st d p ∧ n ≤ 20 ∧ ∀ H' z, Stp p H H' → PlainT z n → Q (.str z) H'
def sp_law_wrong (K : PySem.W.Frag) : Sp := fun vs H Q _ => ∃ (st d p : Addr), vs = [.ref st] ∧ Stm H st d p ∧ ∀ H' t (y : Str) (o : Nat) (rs : Str), Stp p H H' → H' t = some (.tup [.str y, .int (o : Int), .str rs]) → WrongT y o rs → y.length ≤ 40 → o ≤ 20 → (rs.length ≤ 1000 ∧ PyData.strOk rs = true) → Q (.ref t) H'
def PBL : List Str := [" ", "\n", "\t", "  "]
def PSY : List Str := [";", "<=", "(", "||", "=", "*", "}"]
theorem pbl_ok : ∀ z ∈ PBL, (∀ c ∈ tl z, BlankC c) ∧ z.length ≤ 3 ∧ tl z ≠ [] := by
  have h : ∀ z ∈ PBL, (∀ c ∈ tl z, c = 32 ∨ c = 9 ∨ c = 10) ∧ z.length ≤ 3 ∧ tl z ≠ [] := by decide +kernel
  exact h
theorem psy_ok : ∀ z ∈ PSY, z ∈ SYMS := by decide +kernel
theorem PlainT.more {z b y : Str} {n : Nat} {k : Str} {v : V} (x : PlainT z n) (hp : Piece k y) (hv : ValOf k y v) (hb : b ∈ PBL) : PlainT (z ++ y ++ b) (n + 1) := by
  obtain ⟨es, tb, e, ht, hne, ho, ha, hl, h3⟩ := x.ex
  have hbk := pbl_ok b hb
  have ly := piece_len hp
  have hz := x.len
  refine ⟨⟨es ++ [⟨⟨tb.toArray⟩, k, y, v⟩], tl b, ?_, hbk.1, .inr hbk.2.2, fun f hf => ?_, adj_snoc _ es none ha ?_, by rw [List.length_append, List.length_singleton]; omega, by rw [← len_tl]; exact hbk.2.1⟩, ?_⟩
  · rw [tl_append, tl_append, e, txt_snoc]
  · rcases List.mem_append.mp hf with h | h
    · exact ho f h
    · rw [List.mem_singleton.mp h]
      exact ⟨ht, by rw [len_tl]; exact Nat.le_trans h3 (by decide), hp, hv⟩
  · rcases hne with h | h
    · right
      rw [h]
      rfl
    · exact .inl h
  · rw [len_app, len_app]
    omega
theorem ok_law_place_after (T : Txt K mg A) : FnOk P w K mg base CX0 1 A.f_law_place_after A.d_law_place_after ["_law_text"] (sp_law_place_after K) := by
  refine T.F_law_place_after.ok sc_law_place_after (fun vs H Q E h => ?_) (fun cdv A' outer s H vs Q E hr h => ?_)
  · obtain ⟨z, rfl, _⟩ := h
    rfl
  · obtain ⟨z, rfl, hz, q⟩ := h
    refine ⟨_, (pss_cons (ps_set (i := 1) sc_law_place_after.nd rfl (Or.inl rfl) pe_int) 
    (pss_cons (ps_set (i := 2) sc_law_place_after.nd rfl (Or.inl rfl) pe_int) 
    (pss_cons (ps_for PassesOwn.never rfl (pi_str (pv 0)) (pg_name (i := 3) sc_law_place_after.nd rfl (Or.inl rfl)) 
      (pss_cons (ps_set (i := 2) sc_law_place_after.nd rfl (Or.inl rfl) (pe_op op_add (pv 2) pe_int)) 
      (pss_one (ps_if (pt_cmpR op_eq (pv 3) pe_str (nomark _)) 
        (pss_cons (ps_set (i := 1) sc_law_place_after.nd rfl (Or.inl rfl) (pe_op op_add (pv 1) pe_int)) 
        (pss_one (ps_set (i := 2) sc_law_place_after.nd rfl (Or.inl rfl) pe_int))) pss_nil)))) 
    (pss_one (ps_ret (pe_tup (pa_cons (pv 1) (pa_cons (pv 2) pa_nil)))))))), ?_⟩
    walk_at "wp"
    obtain ⟨Pv, hPv⟩ : ∃ Pv : Nat → St → Hp → Prop, ∀ i σ H', Pv i σ H' ↔ H' = H ∧ ∃ v3, σ = [some (V.str z), some (V.int ((plc (1, 1) ((tl z).take i)).1 : Int)), some (V.int ((plc (1, 1) ((tl z).take i)).2 : Int)), v3] := ⟨_, fun _ _ _ => Iff.rfl⟩
    have eNL : Str.ofString "\n" = ⟨#[10]⟩ := by decide +kernel
    refine loop_it (walk_str (z := z)) Pv ((hPv _ _ _).mpr ⟨rfl, none, rfl⟩) (fun _ _ _ _ _ => trivial) ?_ ?_
    · intro i x σ H1 H2 hi pw y
      obtain ⟨rfl, v3, rfl⟩ := (hPv _ _ _).mp pw
      obtain ⟨rfl, u, eu, rfl⟩ := y
      have hi2 : i < (tl z).length := by
        have e := len_tl z
        have e2 : z.length = z.cps.size := rfl
        omega
      have eu2 : (tl z)[i] = u := by
        have e3 : (tl z)[i]? = some u := by
          rw [← eu]
          exact Array.getElem?_toList
        rw [List.getElem?_eq_getElem hi2] at e3
        exact Option.some.inj e3
      have st : plc (1, 1) ((tl z).take (i + 1)) = if u = 10 then ((plc (1, 1) ((tl z).take i)).1 + 1, 1) else ((plc (1, 1) ((tl z).take i)).1, (plc (1, 1) ((tl z).take i)).2 + 1) := by
        rw [List.take_succ_eq_append_getElem hi2, plc_app, plc_one, eu2]
      walk_at "wp"
      rw [eNL]
      by_cases h10 : u = 10
      · rw [if_pos (decide_eq_true (by rw [h10]))]
        rw [if_pos h10] at st
        exact (hPv _ _ _).mpr ⟨rfl, _, by rw [st]; rfl⟩
      · rw [if_neg (by rw [decide_eq_true_eq, sgn_eq]; exact h10)]
        rw [if_neg h10] at st
        exact (hPv _ _ _).mpr ⟨rfl, _, by rw [st]; rfl⟩
    · intro σ H1 pw
      obtain ⟨rfl, v3, rfl⟩ := (hPv _ _ _).mp pw
      have ef : (tl z).take z.cps.size = tl z := List.take_of_length_le (Nat.le_refl _)
      rw [ef]
      walk_at "wp"
      exact ⟨by decide, fun t nt => q _ t (same_upd nt) upd_same⟩
theorem ok_law_plain (T : Txt K mg A) : FnOk P w K mg base CX0 3 A.f_law_plain A.d_law_plain ["_law_stream_here", "_law_count"] (sp_law_plain K) := by
  have G_law_next := ok_law_next (w := w) (base := base) T
  have G_law_word := ok_law_word (w := w) (base := base) T
  refine T.F_law_plain.ok sc_law_plain (fun vs H Q E h => ?_) (fun cdv A' outer s H vs Q E hr h => ?_)
  · obtain ⟨st, d, p, n, rfl, _⟩ := h
    rfl
  · obtain ⟨st, d, p, n, rfl, hM, hn, q⟩ := h
    have big : ∀ n : Nat, n ≤ 1000 → n ≤ sizeLine := fun n h => Nat.le_of_lt (small1000 h)
    refine ⟨_, (pss_cons (ps_set (i := 2) sc_law_plain.nd rfl (Or.inl rfl) pe_str) 
    (pss_cons (ps_for PassesOwn.never rfl (pi_range1 (by rfl) T.b_range (pa_cons (pv 1) pa_nil)) (pg_name (i := 3) sc_law_plain.nd rfl (Or.inl rfl)) 
      (pss_cons (ps_set (i := 4) sc_law_plain.nd rfl (Or.inl rfl) (pe_call G_law_next (hr.mono (by decide)) (by rfl) T.g_law_next T.F_law_next.kp T.B_law_next .nil pass0 (pa_cons (pv 0) (pa_cons pe_int pa_nil)))) 
      (pss_cons (ps_if (pt_cmpR op_eq (pv 4) pe_int (nomark _)) 
        (pss_one (ps_set (i := 2) sc_law_plain.nd rfl (Or.inl rfl) (pe_op op_add_str (pv 2) (pe_ix ix_list (pe_lst (pa_cons pe_str (pa_cons pe_str (pa_cons pe_str (pa_cons pe_str (pa_cons pe_str (pa_cons pe_str (pa_cons pe_str pa_nil)))))))) (pe_call G_law_next (hr.mono (by decide)) (by rfl) T.g_law_next T.F_law_next.kp T.B_law_next .nil pass0 (pa_cons (pv 0) (pa_cons pe_int pa_nil))) (fun _ _ => rfl))))) 
        (pss_one (ps_if (pt_cmpR op_eq (pv 4) pe_int (nomark _)) 
          (pss_one (ps_set (i := 2) sc_law_plain.nd rfl (Or.inl rfl) (pe_op op_add_str (pv 2) (pe_callTy call_str_int (by rfl) T.b_str (by decide +kernel) (pa_cons (pe_call G_law_next (hr.mono (by decide)) (by rfl) T.g_law_next T.F_law_next.kp T.B_law_next .nil pass0 (pa_cons (pv 0) (pa_cons pe_int pa_nil))) pa_nil))))) 
          (pss_one (ps_set (i := 2) sc_law_plain.nd rfl (Or.inl rfl) (pe_op op_add_str (pv 2) (pe_call G_law_word hr (by rfl) T.g_law_word T.F_law_word.kp T.B_law_word .nil pass0 (pa_cons (pv 0) (pa_cons (pe_call G_law_next (hr.mono (by decide)) (by rfl) T.g_law_next T.F_law_next.kp T.B_law_next .nil pass0 (pa_cons (pv 0) (pa_cons pe_int pa_nil))) pa_nil))))))))) 
      (pss_one (ps_set (i := 2) sc_law_plain.nd rfl (Or.inl rfl) (pe_op op_add_str (pv 2) (pe_ix ix_list (pe_lst (pa_cons pe_str (pa_cons pe_str (pa_cons pe_str (pa_cons pe_str pa_nil))))) (pe_call G_law_next (hr.mono (by decide)) (by rfl) T.g_law_next T.F_law_next.kp T.B_law_next .nil pass0 (pa_cons (pv 0) (pa_cons pe_int pa_nil))) (fun _ _ => rfl)))))))) 
    (pss_one (ps_ret (pv 2))))), ?_⟩
    walk_at "wp"
    refine ⟨by omega, by omega, ?_⟩
    obtain ⟨Pv, hPv⟩ : ∃ Pv : Nat → St → Hp → Prop, ∀ i σ H', Pv i σ H' ↔ Stp p H H' ∧ ∃ (z : Str) (v3 v4 : Option V), PlainT z i ∧ σ = [some (V.ref st), some (V.int (n : Int)), some (V.str z), v3, v4] := ⟨_, fun _ _ _ => Iff.rfl⟩
    refine loop_it (walk_range0 (n := n)) Pv ((hPv _ _ _).mpr ⟨hM.refl, _, none, none, ⟨⟨[], [], by decide +kernel, fun _ h => (by cases h), .inl rfl, fun _ h => (by cases h), trivial, Nat.le_refl _, by decide⟩, by decide +kernel⟩, rfl⟩) (fun _ _ _ _ _ => trivial) ?_ ?_
    · intro i x σ H1 H2 hi pw y
      obtain ⟨s1, z, v3, v4, hz, rfl⟩ := (hPv _ _ _).mp pw
      obtain ⟨rfl, rfl⟩ := y
      walk_at "wp"
      have lz := hz.len
      have fin : ∀ (H5 : Hp) (y k : Str) (v x4 : V), Stp p H H5 → Piece k y → ValOf k y v → 4 ≤ sizeLine ∧ ∀ p1, H5 p1 = none → sp_law_next K [V.ref st, V.int 4] (upd H5 p1 (.lst (PBL.map V.str))) (fun y1 H2 => ∃ xs i6, y1 = V.int i6 ∧ SqL K H2 p1 xs ∧ ∃ x7, atI xs i6 = some x7 ∧ ∃ x8, x7 = V.str x8 ∧ (z ++ y).length + x8.length ≤ sizeLine ∧ Pv (i + 1) [some (V.ref st), some (V.int (n : Int)), some (V.str (z ++ y ++ x8)), some (V.int (i : Int)), some x4] H2) E0 := fun H5 y k v x4 s5 hp hv => by
        refine ⟨by decide, fun b nb => ⟨st, d, p, 4, rfl, hM.step (s5.same (same_upd nb)), by decide, fun H6 u s6 u0 u1 => ?_⟩⟩
        obtain ⟨bx, eb, hb⟩ := atI_in (xs := PBL.map V.str) u0 (by simpa [PBL] using u1)
        obtain ⟨bz, hbm, rfl⟩ := List.mem_map.mp hb
        have e6 := s6.keep _ _ (s5.ne nb) upd_same
        have ly := piece_len hp
        have lb := (pbl_ok bz hbm).2.1
        exact ⟨_, u, rfl, SqL.of e6, _, eb, bz, rfl, by rw [len_app]; exact big _ (by omega), (hPv _ _ _).mpr ⟨(s5.same (same_upd nb)).trans s6, _, _, _, hz.more hp hv hbm, rfl⟩⟩
      refine ⟨st, d, p, 3, rfl, hM.step s1, by decide, fun H3 v s3 v0 v1 => ⟨rfl, ?_⟩⟩
      have s13 := s1.trans s3
      by_cases h0 : v = 0
      · rw [if_pos (decide_eq_true (by rw [h0]))]
        refine ⟨by decide, fun a na => ⟨st, d, p, 7, rfl, hM.step (s13.same (same_upd na)), by decide, fun H4 u s4 u0 u1 => ?_⟩⟩
        obtain ⟨bx, eb, hb⟩ := atI_in (xs := PSY.map V.str) u0 (by simpa [PSY] using u1)
        obtain ⟨sy, hbm, rfl⟩ := List.mem_map.mp hb
        have e4 := s4.keep _ _ (s13.ne na) upd_same
        have hp : Piece "symbol" sy := .symbol sy (psy_ok sy hbm)
        have ly := piece_len hp
        exact ⟨_, u, rfl, SqL.of e4, _, eb, sy, rfl, big _ (by omega), fin _ _ _ _ _ ((s13.same (same_upd na)).trans s4) hp (.oth _ _ (fun e => ks_kn.mp e))⟩
      · rw [if_neg (by rw [decide_eq_true_eq, V.int.injEq]; exact h0)]
        refine ⟨rfl, ?_⟩
        by_cases h1 : v = 1
        · rw [if_pos (decide_eq_true (by rw [h1]))]
          refine ⟨st, d, p, 60, rfl, hM.step s13, by decide, fun H4 u s4 u0 u1 => ?_⟩
          obtain ⟨m, rfl⟩ : ∃ m : Nat, u = (m : Int) := ⟨u.toNat, by omega⟩
          have hp := num_piece (n := m) (by omega)
          have ly := piece_len hp.1
          exact ⟨_, rfl, Nat.lt_of_le_of_lt (log2_le_of (a := 34) (by rw [Int.natAbs_natCast]; omega)) (by decide), big _ (by omega), fin _ _ _ _ _ (s13.trans s4) hp.1 hp.2⟩
        · rw [if_neg (by rw [decide_eq_true_eq, V.int.injEq]; exact h1)]
          refine ⟨st, d, p, 10, rfl, hM.step s13, by decide, fun H4 u s4 u0 u1 => ?_⟩
          refine ⟨st, d, p, u, rfl, hM.step (s13.trans s4), u0, u1, fun H5 y s5 hy => ?_⟩
          obtain ⟨c, r, e, g1, g2, g3⟩ := hy
          have hp : Piece "word" y := .word y ⟨c, r, e, g1, g2, by omega⟩
          have ly := piece_len hp
          exact ⟨y, rfl, big _ (by omega), fin _ _ _ _ _ ((s13.trans s4).trans s5) hp (.oth _ _ (fun e => kw_kn.mp e))⟩
    · intro σ H1 pw
      obtain ⟨s1, z, v3, v4, hz, rfl⟩ := (hPv _ _ _).mp pw
      walk_at "wp"
      exact q _ _ s1 hz
theorem ok_law_wrong (T : Txt K mg A) : FnOk P w K mg base CX0 2 A.f_law_wrong A.d_law_wrong ["_law_stream_here"] (sp_law_wrong K) := by
  have G_law_next := ok_law_next (w := w) (base := base) T
  refine T.F_law_wrong.ok sc_law_wrong (fun vs H Q E h => ?_) (fun cdv A' outer s H vs Q E hr h => ?_)
  · obtain ⟨st, d, p, rfl, _⟩ := h
    rfl
  · obtain ⟨st, d, p, rfl, hM, q⟩ := h
    have big : ∀ n : Nat, n ≤ 1000 → n ≤ sizeLine := fun n h => Nat.le_of_lt (small1000 h)
    refine ⟨_, (pss_cons (ps_set (i := 1) sc_law_wrong.nd rfl (Or.inl rfl) (pe_call G_law_next hr (by rfl) T.g_law_next T.F_law_next.kp T.B_law_next .nil pass0 (pa_cons (pv 0) (pa_cons pe_int pa_nil)))) 
    (pss_cons (ps_if (pt_cmpR op_eq (pv 1) pe_int (nomark _)) 
      (pss_cons (ps_set (i := 2) sc_law_wrong.nd rfl (Or.inl rfl) (pe_op op_add_str pe_str pe_str)) 
      (pss_one (ps_ret (pe_tup (pa_cons (pe_ix ix_str (pv 2) (pe_op op_mod (pe_call G_law_next hr (by rfl) T.g_law_next T.F_law_next.kp T.B_law_next .nil pass0 (pa_cons (pv 0) (pa_cons pe_int pa_nil))) (pe_callB call_len_str (by rfl) T.b_len (by decide +kernel) (pa_cons (pv 2) pa_nil))) (fun _ _ => rfl)) (pa_cons pe_int (pa_cons pe_str pa_nil))))))) pss_nil) 
    (pss_cons (ps_if (pt_cmpR op_eq (pv 1) pe_int (nomark _)) 
      (pss_one (ps_ret (pe_tup (pa_cons (pe_op op_add_str pe_str (pe_ix ix_list (pe_lst (pa_cons pe_str (pa_cons pe_str (pa_cons pe_str (pa_cons pe_str (pa_cons pe_str pa_nil)))))) (pe_call G_law_next hr (by rfl) T.g_law_next T.F_law_next.kp T.B_law_next .nil pass0 (pa_cons (pv 0) (pa_cons pe_int pa_nil))) (fun _ _ => rfl))) (pa_cons pe_int (pa_cons pe_str pa_nil)))))) pss_nil) 
    (pss_cons (ps_if (pt_cmpR op_eq (pv 1) pe_int (nomark _)) 
      (pss_cons (ps_set (i := 3) sc_law_wrong.nd rfl (Or.inl rfl) (pe_op op_add pe_int (pe_call G_law_next hr (by rfl) T.g_law_next T.F_law_next.kp T.B_law_next .nil pass0 (pa_cons (pv 0) (pa_cons pe_int pa_nil))))) 
      (pss_one (ps_ret (pe_tup (pa_cons (pe_slice sl_str (pe_op op_add_str pe_str (pe_op op_repS pe_str pe_int)) po_none (po_some (pv 3))) (pa_cons pe_int (pa_cons pe_str pa_nil))))))) pss_nil) 
    (pss_cons (ps_set (i := 3) sc_law_wrong.nd rfl (Or.inl rfl) (pe_op op_add pe_int (pe_call G_law_next hr (by rfl) T.g_law_next T.F_law_next.kp T.B_law_next .nil pass0 (pa_cons (pv 0) (pa_cons pe_int pa_nil))))) 
    (pss_one (ps_ret (pe_tup (pa_cons (pe_slice sl_str (pe_op op_add_str pe_str (pe_op op_repS pe_str pe_int)) po_none (po_some (pv 3))) (pa_cons pe_int (pa_cons pe_str pa_nil))))))))))), ?_⟩
    walk_at "wp"
    refine ⟨st, d, p, 4, rfl, hM, by decide, fun H1 v s1 v0 v1 => ?_⟩
    have M1 := hM.step s1
    have fin : ∀ (H2 : Hp) (y : Str) (o : Nat) (rs : Str), Stp p H H2 → WrongT y o rs → y.length ≤ 40 → o ≤ 20 → (rs.length ≤ 1000 ∧ PyData.strOk rs = true) → 3 ≤ sizeLine ∧ ∀ t, H2 t = none → Q (.ref t) (upd H2 t (.tup [.str y, .int (o : Int), .str rs])) := fun H2 y o rs s2 h1 h2 h3 h4 => ⟨by decide, fun t nt => q _ t y o rs (s2.same (same_upd nt)) upd_same h1 h2 h3 h4⟩
    walk_at "wp"
    have r1 : (Str.ofString "unexpected character").length ≤ 1000 ∧ PyData.strOk (Str.ofString "unexpected character") = true := by decide +kernel
    have r2 : (Str.ofString "name too long").length ≤ 1000 ∧ PyData.strOk (Str.ofString "name too long") = true := by decide +kernel
    have r3 : (Str.ofString "number too long").length ≤ 1000 ∧ PyData.strOk (Str.ofString "number too long") = true := by decide +kernel
    by_cases k0 : v = 0
    · rw [if_pos (decide_eq_true k0)]
      have lC : (Str.ofString "!\"#$&'./?@\\^_~" ++ Str.ofString "`").length = 15 := by decide +kernel
      refine ⟨by decide +kernel, st, d, p, 60, rfl, M1, by decide, fun H2 u s2 u0 u1 => ?_⟩
      rw [lC]
      obtain ⟨c, ec, hc⟩ := atI_in (xs := CHS) (i := u % 15) (Int.emod_nonneg _ (by decide)) (by
        have h := Int.emod_lt_of_pos u (show (0 : Int) < 15 by decide)
        have e : CHS.length = 15 := by decide +kernel
        omega)
      exact ⟨by decide, u, rfl, by decide, by decide, c, ec, fin _ _ 0 _ (s1.trans s2) (wrong_char hc) (show 1 ≤ 40 by decide) (by decide) r1⟩
    · rw [if_neg (by rw [decide_eq_true_eq]; exact k0)]
      by_cases k1 : v = 1
      · rw [if_pos (decide_eq_true k1)]
        refine ⟨by decide, fun a na => ⟨st, d, p, 5, rfl, hM.step (s1.same (same_upd na)), by decide, fun H2 u s2 u0 u1 => ?_⟩⟩
        obtain ⟨bx, eb, hb⟩ := atI_in (xs := (["", " ", "x", "=", ";"] : List Str).map V.str) u0 (by simpa using u1)
        obtain ⟨sy, hbm, rfl⟩ := List.mem_map.mp hb
        have e4 := s2.keep _ _ (s1.ne na) upd_same
        have l1 : (Str.ofString "|").length = 1 := by decide +kernel
        have l2 : sy.length ≤ 1 := (show ∀ s ∈ (["", " ", "x", "=", ";"] : List Str), s.length ≤ 1 by decide +kernel) sy hbm
        exact ⟨_, u, rfl, SqL.of e4, _, eb, sy, rfl, big _ (by omega), fin _ _ 0 _ ((s1.same (same_upd na)).trans s2) (wrong_bar hbm) (by rw [len_app]; omega) (by decide) r1⟩
      · rw [if_neg (by rw [decide_eq_true_eq]; exact k1)]
        by_cases k2 : v = 2
        · rw [if_pos (decide_eq_true k2)]
          refine ⟨st, d, p, 10, rfl, M1, by decide, fun H2 u s2 u0 u1 => ?_⟩
          obtain ⟨m, rfl⟩ : ∃ m : Nat, u = (m : Int) := ⟨u.toNat, by omega⟩
          have ec : tl (cutS (Str.ofString "Q" ++ rep (Str.ofString "ab_9Z") 6) none (some (21 + (m : Int)))) = (tl (Str.ofString "Q" ++ rep (Str.ofString "ab_9Z") 6)).take (21 + m) := by
            rw [show (21 : Int) + (m : Int) = ((21 + m : Nat) : Int) by rw [Int.natCast_add]; rfl]
            exact cut_take _ _
          have lL : (tl (Str.ofString "Q" ++ rep (Str.ofString "ab_9Z") 6)).length = 31 := by decide +kernel
          exact ⟨_, rfl, 6, rfl, by decide +kernel, by decide, by decide +kernel, by decide +kernel, fin _ _ 20 _ (s1.trans s2) (wrong_name (by omega) (by omega) ec) (by rw [len_tl, ec, List.length_take]; omega) (by decide) r2⟩
        · rw [if_neg (by rw [decide_eq_true_eq]; exact k2)]
          refine ⟨st, d, p, 9, rfl, M1, by decide, fun H2 u s2 u0 u1 => ?_⟩
          obtain ⟨m, rfl⟩ : ∃ m : Nat, u = (m : Int) := ⟨u.toNat, by omega⟩
          have ec : tl (cutS (Str.ofString "30" ++ rep (Str.ofString "1728") 5) none (some (10 + (m : Int)))) = (tl (Str.ofString "30" ++ rep (Str.ofString "1728") 5)).take (10 + m) := by
            rw [show (10 : Int) + (m : Int) = ((10 + m : Nat) : Int) by rw [Int.natCast_add]; rfl]
            exact cut_take _ _
          have lL : (tl (Str.ofString "30" ++ rep (Str.ofString "1728") 5)).length = 22 := by decide +kernel
          exact ⟨_, rfl, 5, rfl, by decide +kernel, by decide, by decide +kernel, by decide +kernel, fin _ _ 9 _ (s1.trans s2) (wrong_number (by omega) (by omega) ec) (by rw [len_tl, ec, List.length_take]; omega) (by decide) r3⟩
end
local macro_rules | `(tactic| walk_at "wp") => `(tactic| simp only [tSeq, tAsg, gName, gTup, gCons, gNil, tVar, tC, tOp, tUn, rI, rI0, rU, tCB, tCons, tNil, tIfS, tRet, tRetN, tNext, tNever, test_eq, tB, tTup, tLst, tCall, tCallS, tIf, tAndV, tOrV, tNotV, tNot, tAnd, tOr, rEq, rNe, scal_ii, scal_ss, scal_bb, dec_ii, dec_ss, dec_bb, for_eq, lc_eq, while_eq, tDrop, tYes, iList, iTup, iStr, iRng1, iRng2, RZ.iZipA, L2.start, rIxL, rIxT, rIxS, rSlS, cxK, tSl, tPart, tNoPart, tBM, tBM0, rAppend, rExtend, rRepS, gSub, rSetL, tAug, ipI, rAdd, rSub, tM1, tM0,
  List.map_cons, List.map_nil, List.length_cons, List.length_nil, List.cons_append, List.nil_append, List.append_nil, List.getElem?_cons_succ, List.getElem?_cons_zero, List.set_cons_succ, List.set_cons_zero, Nat.reduceAdd, Nat.reduceSub, List.replicate_succ, List.replicate_zero, wipe,
  Option.some.injEq, V.int.injEq, V.str.injEq, sgn_eq, V.ref.injEq, V.bl.injEq, exists_eq_left, exists_eq_left', exists_and_left, exists_eq_right, List.cons.injEq, and_true, true_and, ex_bl, ex_int, exists_const, Nat.zero_add, Int.toNat_natCast, Int.zero_add, and_assoc, reduceCtorEq, false_and, and_false, exists_false, or_false, false_or, eq_self, decide_true, decide_false, ite_true, ite_false, if_true, if_false, Bool.false_eq_true, Bool.not_true, Bool.not_false, ↓reduceIte])
section
variable {w : World} {K : PySem.W.Frag} {mg : Str → Option Value} {base : Heap} {A : Ad}
def sp_law (K : PySem.W.Frag) : Sp := fun vs H Q _ => ∃ (a : Addr) (ns : List Int), vs = [.ref a] ∧ SqL K H a (ns.map V.int) ∧ ∀ H', Q (.bl true) H'
theorem sp_law_of {K : PySem.W.Frag} {H : Hp} {a : Addr} {ns : List Int} (_ : ns.length ≤ 63) (hb : ∀ z ∈ ns, Builtin.Int.intBits z ≤ 1048576) (_ : Only H) (hS : SqL K H a (ns.map V.int)) : sp_law K [.ref a] H (fun v _ => v = .bl true) fun _ _ _ => False :=
  ⟨a, ns, rfl, hS, fun _ => rfl⟩
theorem plain_lex {z : Str} {n : Nat} (x : PlainT z n) : ∃ s : List Sg, s.length ≤ n ∧ Lex (tl z) 1 1 s := by
  obtain ⟨es, tb, e, ht, hne, ho, ha, hl, h3⟩ := x.ex
  refine ⟨sgs (1, 1) es, by rw [sgs_len]; exact hl, ?_⟩
  rw [e]
  exact lex_main ht es none (1, 1) ho ha
theorem plain_fault {z y b : Str} {n o : Nat} {rs : Str} {r' : List Nat} (x : PlainT z n) (hw : WrongT y o rs) (hb : tl b = 32 :: r') : LexF (tl (z ++ y ++ b)) 1 1 (plc (1, 1) (tl z)).1 ((plc (1, 1) (tl z)).2 + o) rs := by
  obtain ⟨es, tb, e, ht, hne, ho, ha, hl, h3⟩ := x.ex
  obtain ⟨c, r, e2, h1, h2, h4, hF⟩ := hw r'
  rw [tl_append, tl_append, hb, List.append_assoc, e2, e, List.append_assoc]
  refine lexF_main ht es none (1, 1) hne ho ha ?_
  exact LexF.here h1 h2 h4 hF
theorem ok_law (T : Txt K mg A) : FnOk P w K mg base CX0 6 A.f_law A.d_law ["_law_script"] (sp_law K) := by
  have G_law_stream := ok_law_stream (w := w) (base := base) T
  have G_law_plain := ok_law_plain (w := w) (base := base) T
  have G_law_wrong := ok_law_wrong (w := w) (base := base) T
  have G_law_place_after := ok_law_place_after (w := w) (base := base) T
  have G_law_next := ok_law_next (w := w) (base := base) T
  have G_law_fault := ok_law_fault (w := w) (base := base) T
  refine T.F_law.ok sc_law (fun vs H Q E h => ?_) (fun cdv A' outer s H vs Q E hr h => ?_)
  · obtain ⟨a, ns, rfl, _⟩ := h
    rfl
  · obtain ⟨a, ns, rfl, hS, q⟩ := h
    have big : ∀ n : Nat, n ≤ 1000000 → n ≤ sizeLine := fun n h => Nat.le_trans h (by decide)
    have ⟨R, hR, kR⟩ : ∃ R, PSs (cxOf CX0 P w K mg base ["_law_script", "_law_stream_here", "_law_before", "_law_wrong_here", "_law_behind", "_law_line", "_law_column"] "law" (defScope s_law) A.f_law cdv A' outer s H E).nox ((defBody s_law).drop 5) R ∧
        ∀ (H5 : Hp) (v0 v1 : Option V) (t : Addr) (zb y b rs : Str) (n o : Nat) (r' : List Nat), PlainT zb n → n ≤ 20 → WrongT y o rs → y.length ≤ 40 → o ≤ 20 → (rs.length ≤ 1000 ∧ PyData.strOk rs = true) → tl b = 32 :: r' → b.length ≤ 2000 → H5 t = some (.tup [.str y, .int (o : Int), .str rs]) →
          R { nx := fun _ H' => Q .non H', rt := Q } [v0, v1, some (V.str zb), some (V.ref t), some (V.str b), none, none] H5 := by
      refine ⟨_, (pss_cons (ps_asg (pe_call G_law_place_after (hr.mono (by decide)) (by rfl) T.g_law_place_after T.F_law_place_after.kp T.B_law_place_after .nil pass0 (pa_cons (pv 2) pa_nil)) (pg_tup rfl (pgs_cons (pg_name (i := 5) sc_law.nd rfl (Or.inl rfl)) (pgs_cons (pg_name (i := 6) sc_law.nd rfl (Or.inl rfl)) pgs_nil)))) 
    (pss_cons (ps_if (pt_cmpR (op_neD hr.units) (pe_call G_law_fault hr (by rfl) T.g_law_fault T.F_law_fault.kp T.B_law_fault .nil pass0 (pa_cons (pe_op op_add_str (pe_op op_add_str (pv 2) (pe_ix ix_tup (pv 3) pe_int (fun _ _ => rfl))) (pv 4)) pa_nil)) (pe_tup (pa_cons (pv 5) (pa_cons (pe_op op_add (pv 6) (pe_ix ix_tup (pv 3) pe_int (fun _ _ => rfl))) (pa_cons (pe_ix ix_tup (pv 3) pe_int (fun _ _ => rfl)) pa_nil)))) (nomark _)) 
      (pss_one (ps_ret pe_bl)) pss_nil) 
    (pss_one (ps_ret (pe_cmpR op_eq (pe_call G_law_fault hr (by rfl) T.g_law_fault T.F_law_fault.kp T.B_law_fault .nil pass0 (pa_cons (pv 2) pa_nil)) pe_str (nomark _)))))), fun H5 v0 v1 t zb y b rs n o r' hP hn hW hy ho hrs hb hbl ht => ?_⟩
      have lz := hP.len
      walk_at "wp"
      refine ⟨zb, rfl, by omega, fun H6 t1 s6 e6 => ?_⟩
      refine ⟨_, rfl, _, SqT.of e6, rfl, _, _, rfl, _, _, rfl, rfl, ?_⟩
      walk_at "wp"
      have ht6 := s6 _ _ ht
      refine ⟨_, SqT.of ht6, _, rfl, y, rfl, big _ (by omega), by rw [len_app]; exact big _ (by omega), ?_⟩
      refine ⟨zb ++ y ++ b, rfl, by rw [len_app, len_app]; omega, .inr ⟨_, _, rs, plain_fault hP hW hb, fun H7 t7 s7 e7 => ?_⟩⟩
      have ht7 := s7 _ _ ht6
      refine ⟨_, SqT.of ht7, _, rfl, _, rfl, _, SqT.of ht7, _, rfl, by decide, fun c nc => ?_⟩
      rw [← Int.natCast_add]
      generalize (plc (1, 1) (tl zb)).1 = pL at *
      generalize (plc (1, 1) (tl zb)).2 + o = pC at *
      have s8 := same_upd (o := .tup [V.int (pL : Int), V.int (pC : Int), V.str rs]) nc
      have sh : SeqAt.shaped (.tuple [.int (pL : Int), .int (pC : Int), .str rs]) = true := by
        unfold SeqAt.shaped
        simp [PyData.canLay0, PyData.canLayAll0, PyData.depth, PyData.depthAll, hrs.2]
      refine ⟨.tuple [.int (pL : Int), .int (pC : Int), .str rs], .tuple [.int (pL : Int), .int (pC : Int), .str rs], .tup (SqT.of (s8 _ _ e7)) (.cons (.int _) (.cons (.int _) (.cons (.str _) .nil))), .tup (SqT.of upd_same) (.cons (.int _) (.cons (.int _) (.cons (.str _) .nil))), sh, sh, ?_⟩
      rw [SeqAt.eqv_refl _ (SeqAt.canLay_of_shaped sh)]
      refine ⟨_, rfl, ?_⟩
      rw [if_neg (by decide)]
      obtain ⟨s0, hs0, hL0⟩ := plain_lex hP
      refine ⟨zb, rfl, by omega, .inl ⟨s0, by omega, hL0, fun H9 _ => ⟨rfl, ?_⟩⟩⟩
      rw [decide_eq_true rfl]
      exact q _
    refine ⟨_, (pss_cons (ps_set (i := 1) sc_law.nd rfl (Or.inl rfl) (pe_call G_law_stream (hr.mono (by decide)) (by rfl) T.g_law_stream T.F_law_stream.kp T.B_law_stream .nil pass0 (pa_cons (pv 0) (pa_cons pe_int (pa_cons pe_int pa_nil))))) 
    (pss_cons (ps_set (i := 2) sc_law.nd rfl (Or.inl rfl) (pe_call G_law_plain (hr.mono (by decide)) (by rfl) T.g_law_plain T.F_law_plain.kp T.B_law_plain .nil pass0 (pa_cons (pv 1) (pa_cons (pe_call G_law_next (hr.mono (by decide)) (by rfl) T.g_law_next T.F_law_next.kp T.B_law_next .nil pass0 (pa_cons (pv 1) (pa_cons pe_int pa_nil))) pa_nil)))) 
    (pss_cons (ps_set (i := 3) sc_law.nd rfl (Or.inl rfl) (pe_call G_law_wrong (hr.mono (by decide)) (by rfl) T.g_law_wrong T.F_law_wrong.kp T.B_law_wrong .nil pass0 (pa_cons (pv 1) pa_nil))) 
    (pss_cons (ps_set (i := 4) sc_law.nd rfl (Or.inl rfl) (pe_op op_add_str pe_str (pe_call G_law_plain (hr.mono (by decide)) (by rfl) T.g_law_plain T.F_law_plain.kp T.B_law_plain .nil pass0 (pa_cons (pv 1) (pa_cons (pe_call G_law_next (hr.mono (by decide)) (by rfl) T.g_law_next T.F_law_next.kp T.B_law_next .nil pass0 (pa_cons (pv 1) (pa_cons pe_int pa_nil))) pa_nil))))) 
    (pss_cons (ps_if (pt_cmpR op_eq (pe_call G_law_next (hr.mono (by decide)) (by rfl) T.g_law_next T.F_law_next.kp T.B_law_next .nil pass0 (pa_cons (pv 1) (pa_cons pe_int pa_nil))) pe_int (nomark _)) 
      (pss_one (ps_set (i := 4) sc_law.nd rfl (Or.inl rfl) (pe_op op_add_str (pv 4) (pe_ix ix_tup (pe_call G_law_wrong (hr.mono (by decide)) (by rfl) T.g_law_wrong T.F_law_wrong.kp T.B_law_wrong .nil pass0 (pa_cons (pv 1) pa_nil)) pe_int (fun _ _ => rfl))))) pss_nil) hR))))), ?_⟩
    walk_at "wp"
    refine ⟨a, ns, 0, 30, rfl, hS, by decide, by decide, fun H1 st d p s1 hM np => ?_⟩
    refine ⟨st, d, p, 13, rfl, hM, by decide, fun H2 v s2 v0 v1 => ?_⟩
    obtain ⟨n, rfl⟩ : ∃ n : Nat, v = (n : Int) := ⟨v.toNat, by omega⟩
    refine ⟨st, d, p, n, rfl, hM.step s2, by omega, fun H3 zb s3 hP => ?_⟩
    have s13 := s2.trans s3
    refine ⟨st, d, p, rfl, hM.step s13, fun H4 t y o rs s4 e4 hW hy ho hrs => ?_⟩
    have s14 := s13.trans s4
    refine ⟨st, d, p, 7, rfl, hM.step s14, by decide, fun H5 v2 s5 w0 w1 => ?_⟩
    obtain ⟨n2, rfl⟩ : ∃ n : Nat, v2 = (n : Int) := ⟨v2.toNat, by omega⟩
    refine ⟨st, d, p, n2, rfl, hM.step (s14.trans s5), by omega, fun H6 z2 s6 hP2 => ?_⟩
    have s16 := (s14.trans s5).trans s6
    have lz2 := hP2.len
    have lb : (Str.ofString " ").length = 1 := by decide +kernel
    have tb : tl (Str.ofString " ") = [32] := by decide +kernel
    refine ⟨z2, rfl, big _ (by omega), ?_⟩
    refine ⟨st, d, p, 2, rfl, hM.step s16, by decide, fun H7 v3 s7 _ _ => ⟨rfl, ?_⟩⟩
    obtain ⟨i4, ep4⟩ := s14.pl
    have e7 : H7 t = some (.tup [.str y, .int (o : Int), .str rs]) := ((s5.trans s6).trans s7).tup ep4 e4
    by_cases h0 : v3 = 0
    · rw [if_pos (decide_eq_true (by rw [h0]))]
      refine ⟨st, d, p, rfl, hM.step (s16.trans s7), fun H8 t8 y8 o8 rs8 s8 e8 hW8 hy8 _ _ => ⟨t8, rfl, _, SqT.of e8, _, rfl, y8, rfl, by rw [len_app]; exact big _ (by omega), ?_⟩⟩
      obtain ⟨i7, ep7⟩ := (s16.trans s7).pl
      exact kR H8 _ _ t zb y _ rs n o (tl z2 ++ tl y8) hP (by omega) hW hy ho hrs (by rw [tl_append, tl_append, tb]; rfl) (by rw [len_app, len_app]; omega) (s8.tup ep7 e7)
    · rw [if_neg (by rw [decide_eq_true_eq, V.int.injEq]; exact h0)]
      exact kR H7 _ _ t zb y _ rs n o (tl z2) hP (by omega) hW hy ho hrs (by rw [tl_append, tb]; rfl) (by rw [len_app]; omega) e7
end
theorem all_mk {K : PySem.W.Frag} {h : Heap} {mg : Str → Option Value} {fa : Addr} (X : K.In h) (G : h.Ns mainGlobals mg) (hfa : mg "law" = some (.ref fa))
    {xC xf xcc xc xW xT : Addr} {xd : FuncData} (TX_ : TX K mg xC xf xcc xc xd xW xT)
    {x_read_signs : Addr} {od_read_signs an_read_signs : Option Addr} {sl_read_signs : Array (Option Value)} {oc_read_signs kV_read_signs dc_read_signs pm_read_signs cd_read_signs ct_read_signs : Value}
    {x_sign_at : Addr} {od_sign_at an_sign_at : Option Addr} {sl_sign_at : Array (Option Value)} {oc_sign_at kV_sign_at dc_sign_at pm_sign_at cd_sign_at ct_sign_at : Value}
    {x_run_length : Addr} {od_run_length an_run_length : Option Addr} {sl_run_length : Array (Option Value)} {oc_run_length kV_run_length dc_run_length pm_run_length cd_run_length ct_run_length : Value}
    {x_law_cell : Addr} {od_law_cell an_law_cell : Option Addr} {sl_law_cell : Array (Option Value)} {oc_law_cell kV_law_cell dc_law_cell pm_law_cell cd_law_cell ct_law_cell : Value}
    {x_law_draws : Addr} {od_law_draws an_law_draws : Option Addr} {sl_law_draws : Array (Option Value)} {oc_law_draws kV_law_draws dc_law_draws pm_law_draws cd_law_draws ct_law_draws : Value}
    {x_law_stream : Addr} {od_law_stream an_law_stream : Option Addr} {sl_law_stream : Array (Option Value)} {oc_law_stream kV_law_stream dc_law_stream pm_law_stream cd_law_stream ct_law_stream : Value}
    {x_law_next : Addr} {od_law_next an_law_next : Option Addr} {sl_law_next : Array (Option Value)} {oc_law_next kV_law_next dc_law_next pm_law_next cd_law_next ct_law_next : Value}
    {x_law_word : Addr} {od_law_word an_law_word : Option Addr} {sl_law_word : Array (Option Value)} {oc_law_word kV_law_word dc_law_word pm_law_word cd_law_word ct_law_word : Value}
    {x_law_is_integer : Addr} {od_law_is_integer an_law_is_integer : Option Addr} {sl_law_is_integer : Array (Option Value)} {oc_law_is_integer kV_law_is_integer dc_law_is_integer pm_law_is_integer cd_law_is_integer ct_law_is_integer : Value}
    {x_law_plain : Addr} {od_law_plain an_law_plain : Option Addr} {sl_law_plain : Array (Option Value)} {oc_law_plain kV_law_plain dc_law_plain pm_law_plain cd_law_plain ct_law_plain : Value}
    {x_law_wrong : Addr} {od_law_wrong an_law_wrong : Option Addr} {sl_law_wrong : Array (Option Value)} {oc_law_wrong kV_law_wrong dc_law_wrong pm_law_wrong cd_law_wrong ct_law_wrong : Value}
    {x_law_place_after : Addr} {od_law_place_after an_law_place_after : Option Addr} {sl_law_place_after : Array (Option Value)} {oc_law_place_after kV_law_place_after dc_law_place_after pm_law_place_after cd_law_place_after ct_law_place_after : Value}
    {x_law_fault : Addr} {od_law_fault an_law_fault : Option Addr} {sl_law_fault : Array (Option Value)} {oc_law_fault kV_law_fault dc_law_fault pm_law_fault cd_law_fault ct_law_fault : Value}
    {x_law : Addr} {od_law an_law : Option Addr} {sl_law : Array (Option Value)} {oc_law kV_law dc_law pm_law cd_law ct_law : Value}
    {t_SYMBOLS : Addr} {dd_SYMBOLS : Option Addr} {it_SYMBOLS : Array Value} {nn_SYMBOLS : Nat} {ss_SYMBOLS : Array (Option Value)}
    {t_DIGITS : Tok}
    {t_LONGEST_NUMBER : Tok}
    {t_LETTERS : Tok}
    {t_LONGEST_WORD : Tok}
    {t_WORD_CHARACTERS : Tok}
    (a_read_signs : PySem.W.nsIn K mainGlobals "read_signs" = some (some (.ref x_read_signs))) (l_read_signs : K.lookup x_read_signs = some ⟨oc_read_signs, od_read_signs, .func (PySem.W.fnOf "read_signs" "read_signs" (defArgs s_read_signs) (defBody s_read_signs) (defScope s_read_signs) .none kV_read_signs dc_read_signs pm_read_signs an_read_signs cd_read_signs ct_read_signs), sl_read_signs⟩) (c_read_signs : PySem.W.codeIn K cd_read_signs "read_signs" = true) (k_read_signs : PySem.W.keepIn K (.ref x_read_signs) = true)
    (a_sign_at : PySem.W.nsIn K mainGlobals "sign_at" = some (some (.ref x_sign_at))) (l_sign_at : K.lookup x_sign_at = some ⟨oc_sign_at, od_sign_at, .func (PySem.W.fnOf "sign_at" "sign_at" (defArgs s_sign_at) (defBody s_sign_at) (defScope s_sign_at) .none kV_sign_at dc_sign_at pm_sign_at an_sign_at cd_sign_at ct_sign_at), sl_sign_at⟩) (c_sign_at : PySem.W.codeIn K cd_sign_at "sign_at" = true) (k_sign_at : PySem.W.keepIn K (.ref x_sign_at) = true)
    (a_run_length : PySem.W.nsIn K mainGlobals "run_length" = some (some (.ref x_run_length))) (l_run_length : K.lookup x_run_length = some ⟨oc_run_length, od_run_length, .func (PySem.W.fnOf "run_length" "run_length" (defArgs s_run_length) (defBody s_run_length) (defScope s_run_length) .none kV_run_length dc_run_length pm_run_length an_run_length cd_run_length ct_run_length), sl_run_length⟩) (c_run_length : PySem.W.codeIn K cd_run_length "run_length" = true) (k_run_length : PySem.W.keepIn K (.ref x_run_length) = true)
    (a_law_cell : PySem.W.nsIn K mainGlobals "_law_cell" = some (some (.ref x_law_cell))) (l_law_cell : K.lookup x_law_cell = some ⟨oc_law_cell, od_law_cell, .func (PySem.W.fnOf "_law_cell" "_law_cell" (defArgs s_law_cell) (defBody s_law_cell) (defScope s_law_cell) .none kV_law_cell dc_law_cell pm_law_cell an_law_cell cd_law_cell ct_law_cell), sl_law_cell⟩) (c_law_cell : PySem.W.codeIn K cd_law_cell "_law_cell" = true) (k_law_cell : PySem.W.keepIn K (.ref x_law_cell) = true)
    (a_law_draws : PySem.W.nsIn K mainGlobals "_law_draws" = some (some (.ref x_law_draws))) (l_law_draws : K.lookup x_law_draws = some ⟨oc_law_draws, od_law_draws, .func (PySem.W.fnOf "_law_draws" "_law_draws" (defArgs s_law_draws) (defBody s_law_draws) (defScope s_law_draws) .none kV_law_draws dc_law_draws pm_law_draws an_law_draws cd_law_draws ct_law_draws), sl_law_draws⟩) (c_law_draws : PySem.W.codeIn K cd_law_draws "_law_draws" = true) (k_law_draws : PySem.W.keepIn K (.ref x_law_draws) = true)
    (a_law_stream : PySem.W.nsIn K mainGlobals "_law_stream" = some (some (.ref x_law_stream))) (l_law_stream : K.lookup x_law_stream = some ⟨oc_law_stream, od_law_stream, .func (PySem.W.fnOf "_law_stream" "_law_stream" (defArgs s_law_stream) (defBody s_law_stream) (defScope s_law_stream) .none kV_law_stream dc_law_stream pm_law_stream an_law_stream cd_law_stream ct_law_stream), sl_law_stream⟩) (c_law_stream : PySem.W.codeIn K cd_law_stream "_law_stream" = true) (k_law_stream : PySem.W.keepIn K (.ref x_law_stream) = true)
    (a_law_next : PySem.W.nsIn K mainGlobals "_law_next" = some (some (.ref x_law_next))) (l_law_next : K.lookup x_law_next = some ⟨oc_law_next, od_law_next, .func (PySem.W.fnOf "_law_next" "_law_next" (defArgs s_law_next) (defBody s_law_next) (defScope s_law_next) .none kV_law_next dc_law_next pm_law_next an_law_next cd_law_next ct_law_next), sl_law_next⟩) (c_law_next : PySem.W.codeIn K cd_law_next "_law_next" = true) (k_law_next : PySem.W.keepIn K (.ref x_law_next) = true)
    (a_law_word : PySem.W.nsIn K mainGlobals "_law_word" = some (some (.ref x_law_word))) (l_law_word : K.lookup x_law_word = some ⟨oc_law_word, od_law_word, .func (PySem.W.fnOf "_law_word" "_law_word" (defArgs s_law_word) (defBody s_law_word) (defScope s_law_word) .none kV_law_word dc_law_word pm_law_word an_law_word cd_law_word ct_law_word), sl_law_word⟩) (c_law_word : PySem.W.codeIn K cd_law_word "_law_word" = true) (k_law_word : PySem.W.keepIn K (.ref x_law_word) = true)
    (a_law_is_integer : PySem.W.nsIn K mainGlobals "_law_is_integer" = some (some (.ref x_law_is_integer))) (l_law_is_integer : K.lookup x_law_is_integer = some ⟨oc_law_is_integer, od_law_is_integer, .func (PySem.W.fnOf "_law_is_integer" "_law_is_integer" (defArgs s_law_is_integer) (defBody s_law_is_integer) (defScope s_law_is_integer) .none kV_law_is_integer dc_law_is_integer pm_law_is_integer an_law_is_integer cd_law_is_integer ct_law_is_integer), sl_law_is_integer⟩) (c_law_is_integer : PySem.W.codeIn K cd_law_is_integer "_law_is_integer" = true) (k_law_is_integer : PySem.W.keepIn K (.ref x_law_is_integer) = true)
    (a_law_plain : PySem.W.nsIn K mainGlobals "_law_plain" = some (some (.ref x_law_plain))) (l_law_plain : K.lookup x_law_plain = some ⟨oc_law_plain, od_law_plain, .func (PySem.W.fnOf "_law_plain" "_law_plain" (defArgs s_law_plain) (defBody s_law_plain) (defScope s_law_plain) .none kV_law_plain dc_law_plain pm_law_plain an_law_plain cd_law_plain ct_law_plain), sl_law_plain⟩) (c_law_plain : PySem.W.codeIn K cd_law_plain "_law_plain" = true) (k_law_plain : PySem.W.keepIn K (.ref x_law_plain) = true)
    (a_law_wrong : PySem.W.nsIn K mainGlobals "_law_wrong" = some (some (.ref x_law_wrong))) (l_law_wrong : K.lookup x_law_wrong = some ⟨oc_law_wrong, od_law_wrong, .func (PySem.W.fnOf "_law_wrong" "_law_wrong" (defArgs s_law_wrong) (defBody s_law_wrong) (defScope s_law_wrong) .none kV_law_wrong dc_law_wrong pm_law_wrong an_law_wrong cd_law_wrong ct_law_wrong), sl_law_wrong⟩) (c_law_wrong : PySem.W.codeIn K cd_law_wrong "_law_wrong" = true) (k_law_wrong : PySem.W.keepIn K (.ref x_law_wrong) = true)
    (a_law_place_after : PySem.W.nsIn K mainGlobals "_law_place_after" = some (some (.ref x_law_place_after))) (l_law_place_after : K.lookup x_law_place_after = some ⟨oc_law_place_after, od_law_place_after, .func (PySem.W.fnOf "_law_place_after" "_law_place_after" (defArgs s_law_place_after) (defBody s_law_place_after) (defScope s_law_place_after) .none kV_law_place_after dc_law_place_after pm_law_place_after an_law_place_after cd_law_place_after ct_law_place_after), sl_law_place_after⟩) (c_law_place_after : PySem.W.codeIn K cd_law_place_after "_law_place_after" = true) (k_law_place_after : PySem.W.keepIn K (.ref x_law_place_after) = true)
    (a_law_fault : PySem.W.nsIn K mainGlobals "_law_fault" = some (some (.ref x_law_fault))) (l_law_fault : K.lookup x_law_fault = some ⟨oc_law_fault, od_law_fault, .func (PySem.W.fnOf "_law_fault" "_law_fault" (defArgs s_law_fault) (defBody s_law_fault) (defScope s_law_fault) .none kV_law_fault dc_law_fault pm_law_fault an_law_fault cd_law_fault ct_law_fault), sl_law_fault⟩) (c_law_fault : PySem.W.codeIn K cd_law_fault "_law_fault" = true) (k_law_fault : PySem.W.keepIn K (.ref x_law_fault) = true)
    (a_law : PySem.W.nsIn K mainGlobals "law" = some (some (.ref x_law))) (l_law : K.lookup x_law = some ⟨oc_law, od_law, .func (PySem.W.fnOf "law" "law" (defArgs s_law) (defBody s_law) (defScope s_law) .none kV_law dc_law pm_law an_law cd_law ct_law), sl_law⟩) (c_law : PySem.W.codeIn K cd_law "law" = true) (k_law : PySem.W.keepIn K (.ref x_law) = true)
    (z_len : PySem.W.nsIn K mainGlobals "len" = some none)
    (z_int : PySem.W.nsIn K mainGlobals "int" = some none)
    (z_range : PySem.W.nsIn K mainGlobals "range" = some none)
    (z_abs : PySem.W.nsIn K mainGlobals "abs" = some none)
    (z_isinstance : PySem.W.nsIn K mainGlobals "isinstance" = some none)
    (z_bool : PySem.W.nsIn K mainGlobals "bool" = some none)
    (z_str : PySem.W.nsIn K mainGlobals "str" = some none)
    (m_SYMBOLS : PySem.W.nsIn K mainGlobals "SYMBOLS" = some (some (.ref t_SYMBOLS))) (lk_SYMBOLS : K.lookup t_SYMBOLS = some ⟨.type "tuple", dd_SYMBOLS, .seq it_SYMBOLS nn_SYMBOLS, ss_SYMBOLS⟩) (vv_SYMBOLS : Vals [.str "<=", .str ">=", .str "==", .str "||", .str ",", .str ";", .str ":", .str "[", .str "]", .str "(", .str ")", .str "{", .str "}", .str "=", .str "+", .str "-", .str "*", .str "<", .str ">"] it_SYMBOLS.toList)
    (m_DIGITS : PySem.W.nsIn K mainGlobals "DIGITS" = some (some (.str "0123456789" t_DIGITS)))
    (m_LONGEST_NUMBER : PySem.W.nsIn K mainGlobals "LONGEST_NUMBER" = some (some (.int 9 t_LONGEST_NUMBER)))
    (m_LETTERS : PySem.W.nsIn K mainGlobals "LETTERS" = some (some (.str "abcdefghijklmnopqrstuvwxyzABCDEFGHIJKLMNOPQRSTUVWXYZ" t_LETTERS)))
    (m_LONGEST_WORD : PySem.W.nsIn K mainGlobals "LONGEST_WORD" = some (some (.int 20 t_LONGEST_WORD)))
    (m_WORD_CHARACTERS : PySem.W.nsIn K mainGlobals "WORD_CHARACTERS" = some (some (.str "abcdefghijklmnopqrstuvwxyzABCDEFGHIJKLMNOPQRSTUVWXYZ0123456789_" t_WORD_CHARACTERS))) :
    ∃ A : Ad, Txt K mg A ∧ A.f_law = fa ∧ (∀ (s : Shared) (v : Value), BindsTo s A.d_law ⟨[v], []⟩ [("_law_script", v)]) := by
  have e := hfa.symm.trans (PySem.W.mg_of X G a_law)
  cases e
  have F_read_signs := fun_mk (st := s_read_signs) l_read_signs c_read_signs k_read_signs
  have B_read_signs := F_read_signs.binds (ps := ["text"]) fun _ _ _ _ _ _ us hl => match us, hl with | [_], _ => rfl
  have F_sign_at := fun_mk (st := s_sign_at) l_sign_at c_sign_at k_sign_at
  have B_sign_at := F_sign_at.binds (ps := ["text", "at", "line", "column"]) fun _ _ _ _ _ _ us hl => match us, hl with | [_, _, _, _], _ => rfl
  have F_run_length := fun_mk (st := s_run_length) l_run_length c_run_length k_run_length
  have B_run_length := F_run_length.binds (ps := ["text", "at", "characters"]) fun _ _ _ _ _ _ us hl => match us, hl with | [_, _, _], _ => rfl
  have F_law_cell := fun_mk (st := s_law_cell) l_law_cell c_law_cell k_law_cell
  have B_law_cell := F_law_cell.binds (ps := ["_law_script", "_law_k"]) fun _ _ _ _ _ _ us hl => match us, hl with | [_, _], _ => rfl
  have F_law_draws := fun_mk (st := s_law_draws) l_law_draws c_law_draws k_law_draws
  have B_law_draws := F_law_draws.binds (ps := ["_law_cell_here", "_law_count"]) fun _ _ _ _ _ _ us hl => match us, hl with | [_, _], _ => rfl
  have F_law_stream := fun_mk (st := s_law_stream) l_law_stream c_law_stream k_law_stream
  have B_law_stream := F_law_stream.binds (ps := ["_law_script", "_law_first", "_law_count"]) fun _ _ _ _ _ _ us hl => match us, hl with | [_, _, _], _ => rfl
  have F_law_next := fun_mk (st := s_law_next) l_law_next c_law_next k_law_next
  have B_law_next := F_law_next.binds (ps := ["_law_stream_here", "_law_many"]) fun _ _ _ _ _ _ us hl => match us, hl with | [_, _], _ => rfl
  have F_law_word := fun_mk (st := s_law_word) l_law_word c_law_word k_law_word
  have B_law_word := F_law_word.binds (ps := ["_law_stream_here", "_law_index"]) fun _ _ _ _ _ _ us hl => match us, hl with | [_, _], _ => rfl
  have F_law_is_integer := fun_mk (st := s_law_is_integer) l_law_is_integer c_law_is_integer k_law_is_integer
  have B_law_is_integer := F_law_is_integer.binds (ps := ["_law_actual"]) fun _ _ _ _ _ _ us hl => match us, hl with | [_], _ => rfl
  have F_law_plain := fun_mk (st := s_law_plain) l_law_plain c_law_plain k_law_plain
  have B_law_plain := F_law_plain.binds (ps := ["_law_stream_here", "_law_count"]) fun _ _ _ _ _ _ us hl => match us, hl with | [_, _], _ => rfl
  have F_law_wrong := fun_mk (st := s_law_wrong) l_law_wrong c_law_wrong k_law_wrong
  have B_law_wrong := F_law_wrong.binds (ps := ["_law_stream_here"]) fun _ _ _ _ _ _ us hl => match us, hl with | [_], _ => rfl
  have F_law_place_after := fun_mk (st := s_law_place_after) l_law_place_after c_law_place_after k_law_place_after
  have B_law_place_after := F_law_place_after.binds (ps := ["_law_text"]) fun _ _ _ _ _ _ us hl => match us, hl with | [_], _ => rfl
  have F_law_fault := fun_mk (st := s_law_fault) l_law_fault c_law_fault k_law_fault
  have B_law_fault := F_law_fault.binds (ps := ["_law_text"]) fun _ _ _ _ _ _ us hl => match us, hl with | [_], _ => rfl
  have F_law := fun_mk (st := s_law) l_law c_law k_law
  have B_law := F_law.binds (ps := ["_law_script"]) fun _ _ _ _ _ _ us hl => match us, hl with | [_], _ => rfl
  exact ⟨{ xC := xC, xf := xf, xcc := xcc, xc := xc, xd := xd, xW := xW, xT := xT, f_read_signs := x_read_signs, f_sign_at := x_sign_at, f_run_length := x_run_length, f_law_cell := x_law_cell, f_law_draws := x_law_draws, f_law_stream := x_law_stream, f_law_next := x_law_next, f_law_word := x_law_word, f_law_is_integer := x_law_is_integer, f_law_plain := x_law_plain, f_law_wrong := x_law_wrong, f_law_place_after := x_law_place_after, f_law_fault := x_law_fault, f_law := fa, d_read_signs := PySem.W.fnOf "read_signs" "read_signs" (defArgs s_read_signs) (defBody s_read_signs) (defScope s_read_signs) .none kV_read_signs dc_read_signs pm_read_signs an_read_signs cd_read_signs ct_read_signs, d_sign_at := PySem.W.fnOf "sign_at" "sign_at" (defArgs s_sign_at) (defBody s_sign_at) (defScope s_sign_at) .none kV_sign_at dc_sign_at pm_sign_at an_sign_at cd_sign_at ct_sign_at, d_run_length := PySem.W.fnOf "run_length" "run_length" (defArgs s_run_length) (defBody s_run_length) (defScope s_run_length) .none kV_run_length dc_run_length pm_run_length an_run_length cd_run_length ct_run_length, d_law_cell := PySem.W.fnOf "_law_cell" "_law_cell" (defArgs s_law_cell) (defBody s_law_cell) (defScope s_law_cell) .none kV_law_cell dc_law_cell pm_law_cell an_law_cell cd_law_cell ct_law_cell, d_law_draws := PySem.W.fnOf "_law_draws" "_law_draws" (defArgs s_law_draws) (defBody s_law_draws) (defScope s_law_draws) .none kV_law_draws dc_law_draws pm_law_draws an_law_draws cd_law_draws ct_law_draws, d_law_stream := PySem.W.fnOf "_law_stream" "_law_stream" (defArgs s_law_stream) (defBody s_law_stream) (defScope s_law_stream) .none kV_law_stream dc_law_stream pm_law_stream an_law_stream cd_law_stream ct_law_stream, d_law_next := PySem.W.fnOf "_law_next" "_law_next" (defArgs s_law_next) (defBody s_law_next) (defScope s_law_next) .none kV_law_next dc_law_next pm_law_next an_law_next cd_law_next ct_law_next, d_law_word := PySem.W.fnOf "_law_word" "_law_word" (defArgs s_law_word) (defBody s_law_word) (defScope s_law_word) .none kV_law_word dc_law_word pm_law_word an_law_word cd_law_word ct_law_word, d_law_is_integer := PySem.W.fnOf "_law_is_integer" "_law_is_integer" (defArgs s_law_is_integer) (defBody s_law_is_integer) (defScope s_law_is_integer) .none kV_law_is_integer dc_law_is_integer pm_law_is_integer an_law_is_integer cd_law_is_integer ct_law_is_integer, d_law_plain := PySem.W.fnOf "_law_plain" "_law_plain" (defArgs s_law_plain) (defBody s_law_plain) (defScope s_law_plain) .none kV_law_plain dc_law_plain pm_law_plain an_law_plain cd_law_plain ct_law_plain, d_law_wrong := PySem.W.fnOf "_law_wrong" "_law_wrong" (defArgs s_law_wrong) (defBody s_law_wrong) (defScope s_law_wrong) .none kV_law_wrong dc_law_wrong pm_law_wrong an_law_wrong cd_law_wrong ct_law_wrong, d_law_place_after := PySem.W.fnOf "_law_place_after" "_law_place_after" (defArgs s_law_place_after) (defBody s_law_place_after) (defScope s_law_place_after) .none kV_law_place_after dc_law_place_after pm_law_place_after an_law_place_after cd_law_place_after ct_law_place_after, d_law_fault := PySem.W.fnOf "_law_fault" "_law_fault" (defArgs s_law_fault) (defBody s_law_fault) (defScope s_law_fault) .none kV_law_fault dc_law_fault pm_law_fault an_law_fault cd_law_fault ct_law_fault, d_law := PySem.W.fnOf "law" "law" (defArgs s_law) (defBody s_law) (defScope s_law) .none kV_law dc_law pm_law an_law cd_law ct_law, t_SYMBOLS := t_SYMBOLS, t_DIGITS := t_DIGITS, t_LONGEST_NUMBER := t_LONGEST_NUMBER, t_LETTERS := t_LETTERS, t_LONGEST_WORD := t_LONGEST_WORD, t_WORD_CHARACTERS := t_WORD_CHARACTERS },
   { tf := TX_.tf, gW := TX_.gW, gT := TX_.gT, bVE := TX_.bVE, kW := TX_.kW, kV := TX_.kV, kT := TX_.kT, ec := TX_.ec, xx := TX_.xx, em := TX_.em, b_len := PySem.W.mg_none_of X G z_len, b_int := PySem.W.mg_none_of X G z_int, b_range := PySem.W.mg_none_of X G z_range, b_abs := PySem.W.mg_none_of X G z_abs, b_isinstance := PySem.W.mg_none_of X G z_isinstance, b_bool := PySem.W.mg_none_of X G z_bool, b_str := PySem.W.mg_none_of X G z_str, g_read_signs := PySem.W.mg_of X G a_read_signs, F_read_signs := F_read_signs, B_read_signs := B_read_signs, g_sign_at := PySem.W.mg_of X G a_sign_at, F_sign_at := F_sign_at, B_sign_at := B_sign_at, g_run_length := PySem.W.mg_of X G a_run_length, F_run_length := F_run_length, B_run_length := B_run_length, g_law_cell := PySem.W.mg_of X G a_law_cell, F_law_cell := F_law_cell, B_law_cell := B_law_cell, g_law_draws := PySem.W.mg_of X G a_law_draws, F_law_draws := F_law_draws, B_law_draws := B_law_draws, g_law_stream := PySem.W.mg_of X G a_law_stream, F_law_stream := F_law_stream, B_law_stream := B_law_stream, g_law_next := PySem.W.mg_of X G a_law_next, F_law_next := F_law_next, B_law_next := B_law_next, g_law_word := PySem.W.mg_of X G a_law_word, F_law_word := F_law_word, B_law_word := B_law_word, g_law_is_integer := PySem.W.mg_of X G a_law_is_integer, F_law_is_integer := F_law_is_integer, B_law_is_integer := B_law_is_integer, g_law_plain := PySem.W.mg_of X G a_law_plain, F_law_plain := F_law_plain, B_law_plain := B_law_plain, g_law_wrong := PySem.W.mg_of X G a_law_wrong, F_law_wrong := F_law_wrong, B_law_wrong := B_law_wrong, g_law_place_after := PySem.W.mg_of X G a_law_place_after, F_law_place_after := F_law_place_after, B_law_place_after := B_law_place_after, g_law_fault := PySem.W.mg_of X G a_law_fault, F_law_fault := F_law_fault, B_law_fault := B_law_fault, g_law := PySem.W.mg_of X G a_law, F_law := F_law, B_law := B_law, g_SYMBOLS := PySem.W.mg_of X G m_SYMBOLS, q_SYMBOLS := fun H => .inr ⟨_, _, _, lk_SYMBOLS, rfl, rfl, (by have e := vv_SYMBOLS.length; simp only [Array.length_toList, List.length_cons, List.length_nil] at e; rw [← e]; decide), vv_SYMBOLS⟩, g_DIGITS := PySem.W.mg_of X G m_DIGITS, g_LONGEST_NUMBER := PySem.W.mg_of X G m_LONGEST_NUMBER, g_LETTERS := PySem.W.mg_of X G m_LETTERS, g_LONGEST_WORD := PySem.W.mg_of X G m_LONGEST_WORD, g_WORD_CHARACTERS := PySem.W.mg_of X G m_WORD_CHARACTERS }, rfl, fun s v => .of_eq rfl⟩
end K1
open PySem PySem.W PyProof.Rows in
set_option maxRecDepth 100000 in
set_option maxHeartbeats 0 in
theorem PySem.Challenge.cw_loopworks_k01_faults_of_characters_holds : PySem.Challenge.rw_loopworks_k01_faults_of_characters.Holds := by
  w_on; o_law; k_head; (case hw => w_witness2)
  k_fill
  refine L2.walk_ofB (l := PySem.Challenge.rw_loopworks_k01_faults_of_characters) (n := 63) (k := 6) (x := "_law_script") (CX := fun _ => L2.CX0) (sp := fun w => K1.sp_law _) rfl (by decide) rfl ⟨rfl, by decide, by decide⟩ (fun w h Y => PySem.W.kIn_of Y) ?F (fun _ H a ns hl hb hO hS => K1.sp_law_of hl hb hO hS) (fun _ _ _ _ _ h => h)
  case F =>
    intro w mg fa h KX G hmg
    obtain ⟨xC, xf, xcc, xc, xd, xW, xT, TX_⟩ : ∃ xC xf xcc xc xd xW xT, K1.TX _ mg xC xf xcc xc xd xW xT := by
      refine' ⟨_, _, _, _, _, _, _, K1.tx_mk (K1.tf_mk KX G ?a1 ?a2 ?a3 ?a4 ?a5 ?a6 ?a7 ?a8 ?a9 ?b1 ?b2 ?b3 ?b4 ?b5 ?b6 ?b7 ?b8 ?b9 ?c1 ?c2 ?c3 ?c4 ?c5 ?c6) KX G ?d1 ?d2 ?d3 ?f1 ?f2 ?f3 ?f4 ?f5 ?f6 ?f7 ?f8 ?f9 ?d7 ?d8 ?d9 ?e1 ?e2 ?e3 ?e4 ?e5⟩
      (case a1 => k_is)
      (case a2 => k_is)
      (case a3 => k_is)
      (case a4 => k_is)
      (case a5 => rfl)
      (case a6 => decide +kernel)
      (case a7 => k_is)
      (case a8 => k_is)
      (case a9 => k_is)
      (case b1 => k_is)
      (case b2 => k_is)
      (case b3 => ks_is)
      (case b4 => k_is)
      (case b5 => k_is)
      (case b6 => decide +kernel)
      (case b7 => k_is)
      (case b8 => k_is)
      (case b9 => k_is)
      (case c1 => k_is)
      (case c2 => k_is)
      (case c3 => k_is)
      (case c4 => k_is)
      (case c5 => k_is)
      (case c6 => k_is)
      (case d1 => k_is)
      (case d2 => k_is)
      (case d3 => k_is)
      (case f1 => decide)
      (case f2 => k_is)
      (case f3 => k_is)
      (case f4 => k_is)
      (case f5 => decide)
      (case f6 => k_is)
      (case f7 => k_is)
      (case f8 => k_is)
      (case f9 => k_is)
      (case d7 => k_is)
      (case d8 => k_is)
      (case d9 => k_is)
      (case e1 => k_is)
      (case e2 => k_is)
      (case e3 => k_is)
      (case e4 => k_is)
      (case e5 => k_is)
    obtain ⟨A, T, e, hb⟩ : ∃ A : K1.Ad, K1.Txt _ mg A ∧ A.f_law = fa ∧ (∀ (s : Shared) (v : Value), BindsTo s A.d_law ⟨[v], []⟩ [("_law_script", v)]) := by
      refine' K1.all_mk KX G hmg TX_ ?a_read_signs ?l_read_signs ?c_read_signs ?k_read_signs ?a_sign_at ?l_sign_at ?c_sign_at ?k_sign_at ?a_run_length ?l_run_length ?c_run_length ?k_run_length ?a_law_cell ?l_law_cell ?c_law_cell ?k_law_cell ?a_law_draws ?l_law_draws ?c_law_draws ?k_law_draws ?a_law_stream ?l_law_stream ?c_law_stream ?k_law_stream ?a_law_next ?l_law_next ?c_law_next ?k_law_next ?a_law_word ?l_law_word ?c_law_word ?k_law_word ?a_law_is_integer ?l_law_is_integer ?c_law_is_integer ?k_law_is_integer ?a_law_plain ?l_law_plain ?c_law_plain ?k_law_plain ?a_law_wrong ?l_law_wrong ?c_law_wrong ?k_law_wrong ?a_law_place_after ?l_law_place_after ?c_law_place_after ?k_law_place_after ?a_law_fault ?l_law_fault ?c_law_fault ?k_law_fault ?a_law ?l_law ?c_law ?k_law ?z_len ?z_int ?z_range ?z_abs ?z_isinstance ?z_bool ?z_str ?m_SYMBOLS ?lk_SYMBOLS ?vv_SYMBOLS ?m_DIGITS ?m_LONGEST_NUMBER ?m_LETTERS ?m_LONGEST_WORD ?m_WORD_CHARACTERS
      (case a_read_signs => k_is)
      (case l_read_signs => k_is)
      (case c_read_signs => k_is)
      (case k_read_signs => k_is)
      (case a_sign_at => k_is)
      (case l_sign_at => k_is)
      (case c_sign_at => k_is)
      (case k_sign_at => k_is)
      (case a_run_length => k_is)
      (case l_run_length => k_is)
      (case c_run_length => k_is)
      (case k_run_length => k_is)
      (case a_law_cell => k_is)
      (case l_law_cell => k_is)
      (case c_law_cell => k_is)
      (case k_law_cell => k_is)
      (case a_law_draws => k_is)
      (case l_law_draws => k_is)
      (case c_law_draws => k_is)
      (case k_law_draws => k_is)
      (case a_law_stream => k_is)
      (case l_law_stream => k_is)
      (case c_law_stream => k_is)
      (case k_law_stream => k_is)
      (case a_law_next => k_is)
      (case l_law_next => k_is)
      (case c_law_next => k_is)
      (case k_law_next => k_is)
      (case a_law_word => k_is)
      (case l_law_word => k_is)
      (case c_law_word => k_is)
      (case k_law_word => k_is)
      (case a_law_is_integer => k_is)
      (case l_law_is_integer => k_is)
      (case c_law_is_integer => k_is)
      (case k_law_is_integer => k_is)
      (case a_law_plain => k_is)
      (case l_law_plain => k_is)
      (case c_law_plain => k_is)
      (case k_law_plain => k_is)
      (case a_law_wrong => k_is)
      (case l_law_wrong => k_is)
      (case c_law_wrong => k_is)
      (case k_law_wrong => k_is)
      (case a_law_place_after => k_is)
      (case l_law_place_after => k_is)
      (case c_law_place_after => k_is)
      (case k_law_place_after => k_is)
      (case a_law_fault => k_is)
      (case l_law_fault => k_is)
      (case c_law_fault => k_is)
      (case k_law_fault => k_is)
      (case a_law => k_is)
      (case l_law => k_is)
      (case c_law => k_is)
      (case k_law => k_is)
      (case z_len => k_is)
      (case z_int => k_is)
      (case z_range => k_is)
      (case z_abs => k_is)
      (case z_isinstance => k_is)
      (case z_bool => k_is)
      (case z_str => k_is)
      (case m_SYMBOLS => k_is)
      (case lk_SYMBOLS => k_is)
      (case vv_SYMBOLS => exact (.cons ⟨_, rfl⟩ (.cons ⟨_, rfl⟩ (.cons ⟨_, rfl⟩ (.cons ⟨_, rfl⟩ (.cons ⟨_, rfl⟩ (.cons ⟨_, rfl⟩ (.cons ⟨_, rfl⟩ (.cons ⟨_, rfl⟩ (.cons ⟨_, rfl⟩ (.cons ⟨_, rfl⟩ (.cons ⟨_, rfl⟩ (.cons ⟨_, rfl⟩ (.cons ⟨_, rfl⟩ (.cons ⟨_, rfl⟩ (.cons ⟨_, rfl⟩ (.cons ⟨_, rfl⟩ (.cons ⟨_, rfl⟩ (.cons ⟨_, rfl⟩ (.cons ⟨_, rfl⟩ .nil))))))))))))))))))))
      (case m_DIGITS => k_is)
      (case m_LONGEST_NUMBER => k_is)
      (case m_LETTERS => k_is)
      (case m_LONGEST_WORD => k_is)
      (case m_WORD_CHARACTERS => k_is)
    subst e
    exact ⟨A.d_law, hb, fun base _ _ => K1.ok_law T⟩
