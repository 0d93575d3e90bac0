import PyProof.Rows.All
import Wide.All
import OpenK.AllK
import Wide.FinOn
import HandS.ForMost
import HandS.Zip
import HandS.Wide
import HandS.TupAny
import HandS.IsInst
import HandS.EndBits
import HandS.Walk
import HandS.More
import HandS.RaiseMore
import HandS.SetIn
import PySem.Challenge.RW_loopworks_k03_whole_signs_read_back
set_option Elab.async false
set_option linter.all false
set_option maxRecDepth 100000
set_option maxHeartbeats 4000000
namespace Bs
open PySem L2

/-! ### loops as one word -/
def Loop (J : It) (g : TG) (tb : TS) (D : Ends) (σ : St) (H1 : Hp) : Prop := ∃ W : Nat → Nat → St → Hp → Prop, (∃ m, W 0 m σ H1) ∧ ∀ i m σ H, W i m σ H →
  (J.stop i H ∧ D.nx σ H) ∨ (J.go i H ∧ ∃ N : St → Hp → Prop, (∀ σ' H', N σ' H' → ∃ m', m' < m ∧ W (i + 1) m' σ' H') ∧ ∀ x H', J.yld i H x H' → g x σ H' fun σ2 H2 => tb { D with nx := N, ct := N, bk := D.nx } σ2 H2)
theorem for_eq (wi : TI) (g : TG) (tb : TS) (D : Ends) (σ : St) (H : Hp) : tFor wi g tb D σ H = wi σ H fun J H1 => Loop J g tb D σ H1 := rfl
def LoopC (J : It) (g : TG) (tt : TT) (te : TE) (vs : List Nat) (σ : St) (H1 : Hp) (D : Addr) (Qd : Hp → Prop) : Prop := ∃ W : Nat → Nat → Hp → Prop, (∃ m, W 0 m (upd H1 D (.lst []))) ∧ ∀ i m H, W i m H →
  (J.stop i H ∧ Qd H) ∨ (J.go i H ∧ ∃ Nx : Hp → Prop, (∀ H', Nx H' → ∃ m', m' < m ∧ W (i + 1) m' H') ∧ ∀ x H', J.yld i H x H' → g x (wipe σ vs) H' fun σ2 H2 => wipe σ2 vs = wipe σ vs ∧ tt σ2 H2 fun b H3 =>
    if b = true then te σ2 H3 fun y H4 => ∃ acc, H4 D = some (.lst acc) ∧ acc.length < sizeLine ∧ Nx (upd H4 D (.lst (acc ++ [y]))) else Nx H3)
theorem lc_eq (wi : TI) (g : TG) (tt : TT) (te : TE) (vs : List Nat) (σ : St) (H : Hp) (Q : VK) : tLc wi g tt te vs σ H Q = wi σ H fun J H1 => ∀ D, H1 D = none → LoopC J g tt te vs σ H1 D (fun H => Q (.ref D) H) := rfl
def LoopW (c : TT) (tb : TS) (D : Ends) (σ : St) (H : Hp) : Prop := tWhile c tb D σ H
theorem while_eq (c : TT) (tb : TS) (D : Ends) (σ : St) (H : Hp) : tWhile c tb D σ H = LoopW c tb D σ H := rfl

theorem test_eq (t : TE) (σ : St) (H : Hp) (Q : Bool → Hp → Prop) : tTest t σ H Q = t σ H fun x H' => ∃ k, x = .bl k ∧ Q k H' := rfl
theorem ex_bl {b : Bool} {Q : Bool → Prop} : (∃ k, V.bl b = .bl k ∧ Q k) = Q b := propext ⟨fun ⟨k, e, q⟩ => by cases e; exact q, fun q => ⟨b, rfl, q⟩⟩
theorem ex_int {i : Int} {Q : Int → Prop} : (∃ k, V.int i = .int k ∧ Q k) = Q i := propext ⟨fun ⟨k, e, q⟩ => by cases e; exact q, fun q => ⟨i, rfl, q⟩⟩

theorem cxK {CX : CXT} {P : Program} {w : World} {K : PySem.W.Frag} {mg : Str → Option Value} {base : Heap} {N : List Str} {qual : Str} {scope : Scope} {f : Addr} {cd : Value} {A : Around} {outer : List Env} {s : Shared} {H : Hp} {E : XK} : (cxOf CX P w K mg base N qual scope f cd A outer s H E).K = K := rfl
/-! ### sizes -/
def Sz (n : Nat) (x : Int) : Prop := x.natAbs < 2 ^ n
theorem Sz.mono {a b : Nat} {x : Int} (h : Sz a x) (l : a ≤ b) : Sz b x := Nat.lt_of_lt_of_le h (Nat.pow_le_pow_right (by decide) l)
theorem Sz.add {a : Nat} {x y : Int} (h : Sz a x) (k : Sz a y) : Sz (a + 1) (x + y) := by
  unfold Sz at *
  rw [Nat.pow_succ]
  omega
theorem Sz.sub {a : Nat} {x y : Int} (h : Sz a x) (k : Sz a y) : Sz (a + 1) (x - y) := by
  unfold Sz at *
  rw [Nat.pow_succ]
  omega
theorem Sz.mul {a b : Nat} {x y : Int} (h : Sz a x) (k : Sz b y) : Sz (a + b) (x * y) := wide_lt h k
theorem Sz.zero (a : Nat) : Sz a 0 := Nat.pow_pos (by decide)
theorem Sz.bits {n : Int} {b : Nat} (h : Builtin.Int.intBits n ≤ b) : Sz (b + 1) n := by
  unfold Sz
  unfold Builtin.Int.intBits at h
  by_cases e : n.natAbs = 0
  · rw [e]; exact Nat.pow_pos (by decide)
  · have l : n.natAbs < 2 ^ (n.natAbs.log2 + 1) := Nat.lt_log2_self
    refine Nat.lt_of_lt_of_le l (Nat.pow_le_pow_right (by decide) ?_)
    have en : (n == 0) = false := by
      rw [beq_eq_false_iff_ne]
      intro z
      subst z
      exact e rfl
    rw [en] at h
    have h' : n.natAbs.log2 + 1 ≤ b := h
    omega
def CMulX (i j : Int) : Prop := ∃ a b : Nat, Sz a i ∧ Sz b j ∧ a + b ≤ 100000000
theorem log2_le_of {n a : Nat} (h : n < 2 ^ a) : n.log2 ≤ a := by
  by_cases e : n = 0
  · subst e; exact Nat.zero_le _
  · exact Nat.le_of_lt ((Nat.log2_lt e).mpr h)
theorem CMulX.ok {i j : Int} (h : CMulX i j) : IntMulOk i j := by
  obtain ⟨a, b, ha, hb, hab⟩ := h
  have q : ∀ x : Int, Builtin.Int.intBits x ≤ x.natAbs.log2 + 1 := fun x => by
    unfold Builtin.Int.intBits
    split <;> omega
  have h1 := q i
  have h2 := q j
  have h3 := log2_le_of ha
  have h4 := log2_le_of hb
  have e : bitsLine = 134217728 := by decide
  unfold IntMulOk
  intro z
  rw [Bool.and_eq_true] at z
  have z2 := z.2
  unfold Builtin.Int.intTooBig at z2
  have z3 := of_decide_eq_true z2
  rw [e] at z3
  omega
theorem op_mulX {X : Cx} : OpR X (binaryOp .Mult) (rI CMulX fun i j => .int (i * j)) := opI fun _ _ _ _ _ _ _ hc q => PyProof.Rows.mul_int q hc.ok
/-! ### loops and comprehensions over a walk -/
theorem loop_it {J : It} {n : Nat} {G : Hp → Prop} {Y : Nat → Hp → V → Hp → Prop} (w : Walk J n G Y) {g : TG} {tb : TS} {D : Ends} {σ : St} {H : Hp} (Pv : Nat → St → Hp → Prop) (h0 : Pv 0 σ H) (hG : ∀ i σ H, i ≤ n → Pv i σ H → G H)
    (hs : ∀ i x σ H H', i < n → Pv i σ H → Y i H x H' → g x σ H' fun σ2 H2 => tb { D with nx := Pv (i + 1), ct := Pv (i + 1), bk := D.nx } σ2 H2) (hd : ∀ σ H, Pv n σ H → D.nx σ H) : Loop J g tb D σ H := for_it w Pv h0 hG hs hd
theorem loopc_it {J : It} {n : Nat} {G : Hp → Prop} {Y : Nat → Hp → V → Hp → Prop} (w : Walk J n G Y) {g : TG} {tt : TT} {te : TE} {vs : List Nat} {σ : St} {H1 : Hp} {D : Addr} {Qd : Hp → Prop} (Pv : Nat → Hp → Prop) (h0 : Pv 0 (upd H1 D (.lst []))) (hG : ∀ i H, i ≤ n → Pv i H → G H)
    (hs : ∀ i x H H', i < n → Pv i H → Y i H x H' → g x (wipe σ vs) H' fun σ2 H2 => wipe σ2 vs = wipe σ vs ∧ tt σ2 H2 fun b H3 =>
      if b = true then te σ2 H3 fun y H4 => ∃ acc, H4 D = some (.lst acc) ∧ acc.length < sizeLine ∧ Pv (i + 1) (upd H4 D (.lst (acc ++ [y]))) else Pv (i + 1) H3) (hd : ∀ H, Pv n H → Qd H) : LoopC J g tt te vs σ H1 D Qd := lc_it w Pv h0 hG hs hd
theorem same_upd {H : Hp} {p : Addr} {o : HO} (h : H p = none) : Same H (upd H p o) := fun b x e => by
  rw [upd_ne (ne_of_none e h)]
  exact e
theorem same_upd2 {H H' : Hp} {p : Addr} {o : HO} (e : Same H H') (h : H p = none) : Same H (upd H' p o) := fun b x q => by
  rw [upd_ne (ne_of_none q h)]
  exact e _ _ q
/-- [e for ..], without a test, whose element is told by the turn -/
theorem lc_pure {J : It} {n : Nat} {G : Hp → Prop} {Y : Nat → Hp → V → Hp → Prop} (w : Walk J n G Y) {g : TG} {te : TE} {vs : List Nat} {σ : St} {H1 : Hp} {D : Addr} {Qd : Hp → Prop} (f : Nat → V) (hD : H1 D = none) (hn : n ≤ 1000)
    (hG : ∀ H', Same H1 H' → G H') (hY : ∀ i H x H', Y i H x H' → Same H H')
    (hs : ∀ i x H H' (R : VK), i < n → Same H1 H' → Y i H x H' → (∀ H4, Same H' H4 → R (f i) H4) → g x (wipe σ vs) H' fun σ2 H2 => wipe σ2 vs = wipe σ vs ∧ te σ2 H2 R)
    (hd : ∀ H', Same H1 H' → H' D = some (.lst ((List.range n).map f)) → Qd H') : LoopC J g tYes te vs σ H1 D Qd := by
  refine loopc_it w (fun i H => Same H1 H ∧ H D = some (.lst ((List.range i).map f))) ⟨same_upd hD, upd_same⟩ (fun i H _ p => hG H p.1) (fun i x H H' hi p y => ?_) (fun H p => hd H p.1 p.2)
  have hYs := hY _ _ _ _ y
  have q := hs i x H H' (fun y H4 => ∃ acc, H4 D = some (.lst acc) ∧ acc.length < sizeLine ∧ (Same H1 (upd H4 D (.lst (acc ++ [y]))) ∧ upd H4 D (.lst (acc ++ [y])) D = some (.lst ((List.range (i + 1)).map f)))) hi (p.1.trans hYs) y (fun H4 s4 => ?_)
  · exact q
  · refine ⟨_, s4 _ _ (hYs _ _ p.2), ?_, same_upd2 (p.1.trans (hYs.trans s4)) hD, ?_⟩
    · rw [List.length_map, List.length_range]
      exact small1000 (by omega)
    · rw [upd_same, List.range_succ, List.map_append]
      rfl
theorem range_getD {α : Type} (d : α) : ∀ ys : List α, (List.range ys.length).map (fun i => ys[i]?.getD d) = ys := fun ys => by
  refine List.ext_getElem? fun i => ?_
  rw [List.getElem?_map]
  by_cases h : i < ys.length
  · rw [List.getElem?_range h, List.getElem?_eq_getElem h]
    simp [h]
  · rw [List.getElem?_eq_none (by rw [List.length_range]; omega), List.getElem?_eq_none (by omega)]
    rfl
/-- the same by the list that comes out -/
theorem lc_ys {J : It} {n : Nat} {G : Hp → Prop} {Y : Nat → Hp → V → Hp → Prop} (w : Walk J n G Y) {g : TG} {te : TE} {vs : List Nat} {σ : St} {H1 : Hp} {D : Addr} {Qd : Hp → Prop} (ys : List V) (hD : H1 D = none) (hn : n ≤ 1000) (hl : ys.length = n)
    (hG : ∀ H', Same H1 H' → G H') (hY : ∀ i H x H', Y i H x H' → Same H H')
    (hs : ∀ i x y H H' (R : VK), i < n → ys[i]? = some y → Same H1 H' → Y i H x H' → (∀ H4, Same H' H4 → R y H4) → g x (wipe σ vs) H' fun σ2 H2 => wipe σ2 vs = wipe σ vs ∧ te σ2 H2 R)
    (hd : ∀ H', Same H1 H' → H' D = some (.lst ys) → Qd H') : LoopC J g tYes te vs σ H1 D Qd := by
  refine lc_pure w (fun i => ys[i]?.getD .non) hD hn hG hY (fun i x H H' R hi s1 y k => ?_) (fun H' s' e => hd H' s' ?_)
  · have hy : ys[i]? = some (ys[i]?.getD .non) := by
      rw [List.getElem?_eq_getElem (by omega)]
      rfl
    exact hs i x _ H H' R hi hy s1 y k
  · rw [← hl, range_getD] at e
    exact e
theorem walk_zipT {K : PySem.W.Frag} {a b : Addr} {xs ys : List V} {n : Nat} (hn : n = min xs.length ys.length) : Walk (RZ.ItzT K a b) n (fun H => SqT K H a xs ∧ SqT K H b ys) (YPair (fun i => xs[i]?) (fun i => ys[i]?)) := by
  subst hn
  refine ⟨fun i _ hi q => ?_, fun _ q => ⟨xs, ys, q.1, q.2, by omega⟩, fun i H v H' _ q y => ?_⟩
  · have h1 : i < xs.length := by omega
    have h2 : i < ys.length := by omega
    exact ⟨xs, ys, xs[i], ys[i], q.1, q.2, by simp [h1], by simp [h2]⟩
  · obtain ⟨T, x, z, h1, h2, h3, h4, h5⟩ := y
    exact ⟨T, x, z, h1, h2, h3, h4 xs q.1, h5 ys q.2⟩
theorem ypair_same {xs ys : Nat → Option V} : ∀ (i : Nat) (H : Hp) (x : V) (H' : Hp), YPair xs ys i H x H' → Same H H' := fun i H x H' ⟨T, _, _, _, n, e, _⟩ => by
  subst e
  exact same_upd n
theorem yat_same {xs : List V} : ∀ (i : Nat) (H : Hp) (x : V) (H' : Hp), YAt xs i H x H' → Same H H' := fun i H x H' ⟨e, _⟩ => by
  subst e
  exact Same.refl _
theorem yfn_same {f : Nat → V} : ∀ (i : Nat) (H : Hp) (x : V) (H' : Hp), YFn f i H x H' → Same H H' := fun i H x H' ⟨e, _⟩ => by
  subst e
  exact Same.refl _
theorem sameT {K : PySem.W.Frag} {H H' : Hp} {a : Addr} {xs : List V} (e : Same H H') (h : SqT K H a xs) : SqT K H' a xs := by
  rcases h with (h | ⟨o, h⟩) | h
  · exact .inl (.inl (e _ _ h))
  · exact .inl (.inr ⟨o, e _ _ h⟩)
  · exact .inr h
theorem scal_ii (a b : Int) : scal (.int a) (.int b) = true := rfl
theorem scal_ss (a b : Str) : scal (.str a) (.str b) = true := rfl
theorem scal_bb (a b : Bool) : scal (.bl a) (.bl b) = true := rfl
theorem dec_ii (a b : Int) : decide (V.int a = V.int b) = decide (a = b) := decide_eq_decide.mpr (by rw [V.int.injEq])
theorem dec_ss (a b : Str) : decide (V.str a = V.str b) = decide (a = b) := decide_eq_decide.mpr (by rw [V.str.injEq])
theorem dec_bb (a b : Bool) : decide (V.bl a = V.bl b) = decide (a = b) := decide_eq_decide.mpr (by rw [V.bl.injEq])
theorem walk_range0 {n : Nat} : Walk (Itr 0 n) n (fun _ => True) (fun i H x H' => H' = H ∧ x = V.int ((i : Nat) : Int)) :=
  ⟨fun _ _ hi _ => hi, fun _ _ => Nat.le_refl _, fun _ _ _ _ _ _ y => ⟨y.1, by rw [y.2, Int.zero_add]⟩⟩
theorem yat_at {xs : List V} {i : Nat} {H H' : Hp} {x : V} (y : YAt xs i H x H') : H' = H ∧ xs[i]? = some x := y
theorem isi {K : PySem.W.Frag} {H : Hp} {x : V} {a b : String} {r : Bool} {Q : VK} (ty : TyX K H x (.type a)) (hk : kitB a b = some r) (q : Q (.bl r) H) : rIsi K [x, .ty b] H Q :=
  ⟨x, .ty b, .type a, .type b, r, rfl, .ty b, ty, kit_ty hk, q⟩
theorem ty_int {K : PySem.W.Frag} {H : Hp} {i : Int} : TyX K H (.int i) (.type "int") := .base (.int i)
theorem ty_bl {K : PySem.W.Frag} {H : Hp} {i : Bool} : TyX K H (.bl i) (.type "bool") := .base (.bl i)
theorem ty_str {K : PySem.W.Frag} {H : Hp} {i : Str} : TyX K H (.str i) (.type "str") := .base (.str i)
theorem ty_tup {K : PySem.W.Frag} {H : Hp} {a : Addr} {xs : List V} (h : SqT K H a xs) : TyX K H (.ref a) (.type "tuple") := by
  rcases h with (h | ⟨o, h⟩) | ⟨o, _, _, h, c, _⟩
  · exact .base (.tup h)
  · exact .fTuple h
  · exact .kTuple h c
theorem ty_lst {K : PySem.W.Frag} {H : Hp} {a : Addr} {xs : List V} (h : SqL K H a xs) : TyX K H (.ref a) (.type "list") := by
  rcases h with (h | ⟨o, h⟩) | ⟨o, _, _, h, c, _⟩
  · exact .base (.lst h)
  · exact .base (.frz h)
  · exact .kList h c
theorem sqT_upd {K : PySem.W.Frag} {H : Hp} {p b : Addr} {o : HO} {xs ys : List V} (hp : H p = some (.lst xs)) (h : SqT K H b ys) : SqT K (upd H p o) b ys := by
  rcases h with (h | ⟨o, h⟩) | h
  · exact .inl (.inl (by rw [upd_ne (ne_of h hp (by intro z; cases z))]; exact h))
  · exact .inl (.inr ⟨o, by rw [upd_ne (ne_of h hp (by intro z; cases z))]; exact h⟩)
  · exact .inr h
end Bs
namespace Bs
open PySem L2 TL

/-! ### texts -/
theorem call_str_any {X : Cx} : CallR X (.type "str") (fun xs H Q => (∃ i, xs = [.int i] ∧ i.natAbs.log2 < 1920 ∧ Q (.str (toString i)) H) ∨ ∃ a, xs = [.str a] ∧ Q (.str a) H) := by
  intro pins s σ H xs us Q I r h
  rcases h with h | h
  · exact call_str_int pins s σ H xs us Q I r h
  · exact SkE.call_str_str pins s σ H xs us Q I r h
theorem call_intI {X : Cx} : CallR X (.type "int") (fun xs H Q => ∃ i, xs = [.int i] ∧ Q (.int i) H) := by
  intro pins s σ H xs us Q I r h
  exact call_int1 pins s σ H xs us Q I r (.inl h)
/-- z repeated n times -/
def rep (z : Str) (n : Nat) : Str := ⟨((List.replicate n (tl z)).flatten).toArray⟩
theorem tl_rep (z : Str) (n : Nat) : tl (rep z n) = (List.replicate n (tl z)).flatten := rfl
theorem rep_len (z : Str) (n : Nat) : (rep z n).length = z.length * n := by
  rw [len_tl, len_tl, tl_rep, List.length_flatten, List.map_replicate]
  generalize (tl z).length = k
  induction n with
  | zero => rfl
  | succ n ih => rw [List.replicate_succ, List.sum_cons, ih, Nat.mul_succ]; omega
theorem foldl_app (l : List (Array Nat)) : ∀ a : Array Nat, (l.foldl (· ++ ·) a).toList = a.toList ++ (l.map Array.toList).flatten := by
  induction l with
  | nil => intro a; simp
  | cons x r ih => intro a; simp [ih, List.append_assoc]
theorem mul_rep (z : Str) (n : Nat) : Txt.mul z (n : Int) = rep z n := by
  refine ext_tl ?_
  rw [tl_rep]
  unfold Txt.mul
  by_cases h1 : ((n : Nat) : Int) < 1
  · have e : n = 0 := by omega
    subst e
    rw [if_pos h1]
    rfl
  · rw [if_neg h1]
    split
    · rename_i h2
      rw [Bool.or_eq_true, beq_iff_eq, beq_iff_eq] at h2
      rcases h2 with h2 | h2
      · have e : n = 1 := by omega
        subst e
        simp
      · have e : tl z = [] := (len0_tl z).mp h2
        rw [e]
        simp
    · show (List.foldl (· ++ ·) #[] (List.replicate ((n : Int)).toNat z.cps)).toList = _
      rw [foldl_app, Int.toNat_natCast, List.map_replicate]
      rfl
def rRepS : R2 := fun x y H Q => ∃ (z : Str) (n : Nat), x = .str z ∧ y = .int (n : Int) ∧ z.length ≤ 1000 ∧ n ≤ 1000 ∧ Q (.str (rep z n)) H
theorem op_repS {X : Cx} : OpR X (binaryOp .Mult) rRepS := by
  intro pins s σ H x y v u Q I rx ry h
  obtain ⟨z, n, rfl, rfl, hz, hn, q⟩ := h
  obtain ⟨t, rfl⟩ := rx
  obtain ⟨t', rfl⟩ := ry
  refine SB.mul (n := (n : Int)) ⟨?_, fun h1 _ => ?_, fun h1 _ => ?_⟩ fun t1 k => ⟨.str (rep z n), H, I.tok k, ⟨t1, by rw [mul_rep]⟩, q⟩
  · rw [Bool.or_eq_false_iff]
    constructor <;> rw [decide_eq_false_iff_not] <;> omega
  · have hn1 : 1 ≤ (n : Int) := by omega
    have h2 : (1000 : Int) ≤ (2 ^ 63 - 1) / (n : Int) := by
      rw [Int.le_ediv_iff_mul_le (by omega)]
      omega
    omega
  · show decide (z.length * ((n : Int)).toNat > sizeLine) = false
    have hm : z.length * n ≤ 1000 * 1000 := Nat.mul_le_mul hz hn
    rw [Int.toNat_natCast]
    exact decide_eq_false (by have : (1000 * 1000 : Nat) < sizeLine := by decide
                              omega)
theorem len_app (x y : Str) : (x ++ y).length = x.length + y.length := Str.length_append x y
/-- the texts of a list, one behind the other -/
def flat (ps : List Str) : Str := Str.join Str.empty ps
theorem tl_flat (ps : List Str) : tl (flat ps) = (ps.map tl).flatten := by
  unfold flat
  rw [tl_join]
  show joinL [] (ps.map tl) = _
  generalize ps.map tl = l
  induction l with
  | nil => rfl
  | cons x r ih =>
    cases r with
    | nil => simp [joinL]
    | cons y r => rw [joinL, ih]; simp
theorem flat_snoc (ps : List Str) (x : Str) : flat (ps ++ [x]) = flat ps ++ x := by
  refine ext_tl ?_
  rw [tl_append, tl_flat, tl_flat]
  simp
theorem flat_len (ps : List Str) : (ps.map (·.length)).sum = (flat ps).length := by
  rw [len_tl, tl_flat, List.length_flatten, List.map_map]
  congr 1
theorem join_flat (e : Str) (h : tl e = []) (ps : List Str) : Txt.join e ps = flat ps := by
  rw [join_eq]
  refine ext_tl ?_
  rw [tl_join, tl_flat, h]
  generalize ps.map tl = l
  induction l with
  | nil => rfl
  | cons x r ih =>
    cases r with
    | nil => simp [joinL]
    | cons y r => rw [joinL, ih]; simp

theorem cut_take (z : Str) (n : Nat) : tl (cutS z none (some (n : Int))) = (tl z).take n := by
  show ((tl z).drop (HT.sIx z.length 0 none)).take (HT.sIx z.length z.length (some (n : Int)) - HT.sIx z.length 0 none) = _
  rw [HT.sIx_none, HT.sIx_nat, List.drop_zero, Nat.sub_zero, len_tl]
  by_cases h : n ≤ (tl z).length
  · rw [Nat.min_eq_left h]
  · rw [Nat.min_eq_right (by omega), List.take_of_length_le (Nat.le_refl _), List.take_of_length_le (by omega)]
theorem cut_drop (z : Str) (n : Nat) : tl (cutS z (some (n : Int)) none) = (tl z).drop n := by
  show ((tl z).drop (HT.sIx z.length 0 (some (n : Int)))).take (HT.sIx z.length z.length none - HT.sIx z.length 0 (some (n : Int))) = _
  rw [HT.sIx_none, HT.sIx_nat, len_tl]
  by_cases h : n ≤ (tl z).length
  · rw [Nat.min_eq_left h, List.take_of_length_le (by rw [List.length_drop]; omega)]
  · rw [Nat.min_eq_right (by omega), Nat.sub_self, List.take_zero, List.drop_eq_nil_of_le (by omega)]
theorem tl1 (c : Nat) : tl ⟨#[c]⟩ = [c] := rfl
theorem sum_ones {α : Type} : ∀ l : List α, (l.map fun _ => 1).sum = l.length
  | [] => rfl
  | x :: l => by
    rw [List.map_cons, List.sum_cons, sum_ones l, List.length_cons]
    omega
theorem sgn_inj {a b : Nat} (h : (⟨#[a]⟩ : Str) = ⟨#[b]⟩) : a = b := by
  have e := congrArg tl h
  rw [tl1, tl1] at e
  exact List.head_eq_of_cons_eq e
theorem sgn_eq (a b : Nat) : ((⟨#[a]⟩ : Str) = ⟨#[b]⟩) = (a = b) := propext ⟨sgn_inj, fun h => by rw [h]⟩
/-! ### a while, by a word with its measure -/
def Turn (W : Nat → St → Hp → Prop) (m : Nat) (tb : TS) (D : Ends) (σ : St) (H : Hp) : Prop := ∃ N : St → Hp → Prop, (∀ σ' H', N σ' H' → ∃ m', m' < m ∧ W m' σ' H') ∧ tb { D with nx := N, ct := N, bk := D.nx } σ H
theorem turn_of {W : Nat → St → Hp → Prop} {m : Nat} {tb : TS} {D : Ends} {σ : St} {H : Hp} (h : tb { D with nx := fun σ' H' => ∃ m', m' < m ∧ W m' σ' H', ct := fun σ' H' => ∃ m', m' < m ∧ W m' σ' H', bk := D.nx } σ H) : Turn W m tb D σ H := ⟨_, fun _ _ h => h, h⟩
theorem loopw {c : TT} {tb : TS} {D : Ends} {σ : St} {H : Hp} (W : Nat → St → Hp → Prop) (m : Nat) (h0 : W m σ H) (hs : ∀ m σ H, W m σ H → c σ H fun b H1 => if b = true then Turn W m tb D σ H1 else D.nx σ H1) : LoopW c tb D σ H := ⟨W, ⟨m, h0⟩, hs⟩
theorem cut_mid (z : Str) (i k : Nat) : tl (cutS z (some (i : Int)) (some ((i : Int) + (k : Int)))) = ((tl z).drop i).take k := by
  have e : (i : Int) + (k : Int) = ((i + k : Nat) : Int) := by omega
  rw [e]
  show ((tl z).drop (HT.sIx z.length 0 (some (i : Int)))).take (HT.sIx z.length z.length (some ((i + k : Nat) : Int)) - HT.sIx z.length 0 (some (i : Int))) = _
  rw [HT.sIx_nat, HT.sIx_nat, len_tl]
  by_cases h : i ≤ (tl z).length
  · rw [Nat.min_eq_left h]
    by_cases h2 : i + k ≤ (tl z).length
    · rw [Nat.min_eq_left h2, Nat.add_sub_cancel_left]
    · rw [Nat.min_eq_right (by omega)]
      rw [List.take_of_length_le (by rw [List.length_drop]; omega), List.take_of_length_le (by rw [List.length_drop]; omega)]
  · rw [Nat.min_eq_right (by omega), Nat.min_eq_right (by omega), Nat.sub_self, List.take_zero, List.drop_eq_nil_of_le (by omega), List.take_nil]
/-! ### a list's item at an open place -/
theorem atI_in {α : Type} {xs : List α} {i : Int} (h0 : 0 ≤ i) (h1 : i < xs.length) : ∃ x, atI xs i = some x ∧ x ∈ xs := by
  obtain ⟨n, rfl⟩ : ∃ n : Nat, i = (n : Int) := ⟨i.toNat, by omega⟩
  have hn : n < xs.length := by omega
  exact ⟨xs[n], atI_nat (List.getElem?_eq_getElem hn), List.getElem_mem hn⟩

/-! ### v in a list of texts -/
theorem inV_str (v : Str) : ∀ l : List Str, inV (.str v) (l.map V.str) = decide (v ∈ l)
  | [] => rfl
  | x :: l => by
    show (eqV (.str x) (.str v) || inV (.str v) (l.map V.str)) = _
    rw [inV_str v l]
    show (decide (x = v) || _) = _
    rw [← Bool.decide_or]
    refine decide_eq_decide.mpr ?_
    rw [List.mem_cons]
    constructor
    · rintro (h | h)
      · exact .inl h.symm
      · exact .inr h
    · rintro (h | h)
      · exact .inl h.symm
      · exact .inr h
theorem flat_strs : ∀ zs : List Str, (zs.map V.str).all flatV = true
  | [] => rfl
  | _ :: zs => flat_strs zs
theorem rin {K : PySem.W.Frag} {H : Hp} {p : Addr} (zs : List Str) {v : Str} {Q : VK} (h : SqL K H p (zs.map V.str) ∨ SqT K H p (zs.map V.str)) (q : Q (.bl (decide (v ∈ zs))) H) : rIn K false (.str v) (.ref p) H Q :=
  ⟨p, zs.map V.str, rfl, h, rfl, flat_strs zs, by rw [inV_str]; exact q⟩
theorem rnin {K : PySem.W.Frag} {H : Hp} {p : Addr} (zs : List Str) {v : Str} {Q : VK} (h : SqL K H p (zs.map V.str) ∨ SqT K H p (zs.map V.str)) (q : Q (.bl (!decide (v ∈ zs))) H) : rIn K true (.str v) (.ref p) H Q :=
  ⟨p, zs.map V.str, rfl, h, rfl, flat_strs zs, by rw [inV_str]; exact q⟩
/-! ### the law's stream of numbers: a list of two lists -/
structure Stm (H : Hp) (st d p : Addr) : Prop where
  at_ : H st = some (.lst [.ref d, .ref p])
  dg : ∃ ds : List Int, H d = some (.lst (ds.map V.int)) ∧ ds ≠ []
  pl : ∃ i : Int, H p = some (.lst [.int i])
  n1 : st ≠ p
  n2 : d ≠ p
/-- all but what stands at p is as it was -/
structure Stp (p : Addr) (H H' : Hp) : Prop where
  keep : ∀ b o, b ≠ p → H b = some o → H' b = some o
  pl : ∃ i : Int, H' p = some (.lst [.int i])
theorem Stp.trans {p : Addr} {H H1 H2 : Hp} (a : Stp p H H1) (b : Stp p H1 H2) : Stp p H H2 := ⟨fun c o n e => b.keep c o n (a.keep c o n e), b.pl⟩
theorem Stm.step {H H' : Hp} {st d p : Addr} (x : Stm H st d p) (e : Stp p H H') : Stm H' st d p :=
  ⟨e.keep _ _ x.n1 x.at_, let ⟨ds, h, n⟩ := x.dg; ⟨ds, e.keep _ _ x.n2 h, n⟩, e.pl, x.n1, x.n2⟩
theorem Stm.refl {H : Hp} {st d p : Addr} (x : Stm H st d p) : Stp p H H := ⟨fun _ _ _ e => e, x.pl⟩
theorem Stm.same {H H' : Hp} {st d p : Addr} (x : Stm H st d p) (e : Same H H') : Stp p H H' := ⟨fun b o _ h => e b o h, let ⟨i, h⟩ := x.pl; ⟨i, e _ _ h⟩⟩
theorem Stp.same {p : Addr} {H H1 H2 : Hp} (a : Stp p H H1) (e : Same H1 H2) : Stp p H H2 := ⟨fun b o n h => e _ _ (a.keep b o n h), let ⟨i, h⟩ := a.pl; ⟨i, e _ _ h⟩⟩
theorem Stp.tup {p : Addr} {H H' : Hp} {b : Addr} {xs : List V} (a : Stp p H H') {i : Int} (hp : H p = some (.lst [.int i])) (h : H b = some (.tup xs)) : H' b = some (.tup xs) :=
  a.keep b _ (ne_of h hp (by intro z; cases z)) h
theorem Stp.sqT {K : PySem.W.Frag} {p : Addr} {H H' : Hp} {b : Addr} {xs : List V} (a : Stp p H H') {i : Int} (hp : H p = some (.lst [.int i])) (h : SqT K H b xs) : SqT K H' b xs := by
  rcases h with (h | ⟨o, h⟩) | h
  · exact .inl (.inl (a.tup hp h))
  · exact .inl (.inr ⟨o, a.keep _ _ (ne_of h hp (by intro z; cases z)) h⟩)
  · exact .inr h
theorem Stp.free {p : Addr} {H H' : Hp} (a : Stp p H H') {b : Addr} (h : H' b = none) (n : b ≠ p) : H b = none := by
  cases e : H b with
  | none => rfl
  | some o =>
    have h2 := a.keep _ _ n e
    rw [h] at h2
    cases h2
theorem Stp.ne {p : Addr} {H H' : Hp} (a : Stp p H H') {b : Addr} (h : H' b = none) : b ≠ p := by
  obtain ⟨i, e⟩ := a.pl
  exact (ne_of_none e h).symm
/-- what is put at a new place behind a step -/
theorem Stp.upd {p : Addr} {H H' : Hp} (a : Stp p H H') {b : Addr} {o : HO} (h : H b = none) (n : b ≠ p) : Stp p H (upd H' b o) :=
  ⟨fun c u nc e => by rw [upd_ne (ne_of_none e h)]; exact a.keep _ _ nc e, let ⟨i, e⟩ := a.pl; ⟨i, by rw [upd_ne n.symm]; exact e⟩⟩
/-- p was free before: then nothing that stood is changed -/
theorem Stp.fresh {p : Addr} {H0 H H' : Hp} (a : Stp p H H') (s : Same H0 H) (h : H0 p = none) : Same H0 H' := fun b o e => a.keep b o (ne_of_none e h) (s b o e)
end Bs
namespace K3
open PySem L2 TL Bs
local macro_rules | `(tactic| walk_at "wp") => `(tactic| simp only [tSeq, tAsg, gName, gTup, gCons, gNil, tVar, tC, tOp, tUn, rI, rI0, rU, tCB, tCons, tNil, tIfS, tRet, tRetN, tNext, tNever, test_eq, tB, tTup, tLst, tCall, tIf, tAndV, tOrV, tNotV, tNot, tAnd, tOr, rEq, rNe, scal_ii, scal_ss, scal_bb, dec_ii, dec_ss, dec_bb, for_eq, lc_eq, while_eq, tDrop, tYes, iList, iTup, iStr, iRng1, iRng2, RZ.iZipA, L2.start, rIxL, rIxT, rIxS, rSlS, cxK, tSl, tPart, tNoPart, tBM, tBM0, rAppend, rExtend, rRepS, gSub, rSetL, tAug, ipI, rAdd, rSub, tM1, tM0,
  List.map_cons, List.map_nil, List.length_cons, List.length_nil, List.cons_append, List.nil_append, List.append_nil, List.getElem?_cons_succ, List.getElem?_cons_zero, List.set_cons_succ, List.set_cons_zero, Nat.reduceAdd, Nat.reduceSub, List.replicate_succ, List.replicate_zero, wipe,
  Option.some.injEq, V.int.injEq, V.str.injEq, sgn_eq, V.ref.injEq, V.bl.injEq, exists_eq_left, exists_eq_left', exists_and_left, exists_eq_right, List.cons.injEq, and_true, true_and, ex_bl, ex_int, exists_const, Nat.zero_add, Int.toNat_natCast, Int.zero_add, and_assoc, reduceCtorEq, false_and, and_false, exists_false, or_false, false_or, eq_self, decide_true, decide_false, ite_true, ite_false, if_true, if_false, Bool.false_eq_true, Bool.not_true, Bool.not_false, ↓reduceIte])
def top (i : Nat) : Stmt := PySem.Challenge.pw_loopworks_k03_whole_signs_read_back.main.body.getD i (.Pass ⟨0, 0, 0, 0⟩)
abbrev s_read_signs : Stmt := top 13
theorem sc_read_signs : FnScope ["text", "signs", "at", "line", "line_start", "kind", "written", "value"] ["text"] (defScope s_read_signs) := ⟨rfl, rfl, rfl, by decide +kernel, rfl, by decide +kernel, by decide +kernel⟩
abbrev s_sign_at : Stmt := top 14
theorem sc_sign_at : FnScope ["text", "at", "line", "column", "length", "symbol"] ["text", "at", "line", "column"] (defScope s_sign_at) := ⟨rfl, rfl, rfl, by decide +kernel, rfl, by decide +kernel, by decide +kernel⟩
abbrev s_run_length : Stmt := top 15
theorem sc_run_length : FnScope ["text", "at", "characters", "behind"] ["text", "at", "characters"] (defScope s_run_length) := ⟨rfl, rfl, rfl, by decide +kernel, rfl, by decide +kernel, by decide +kernel⟩
abbrev s_write_signs : Stmt := top 16
theorem sc_write_signs : FnScope ["signs", "pieces", "depth", "last", "sign", "value"] ["signs"] (defScope s_write_signs) := ⟨rfl, rfl, rfl, by decide +kernel, rfl, by decide +kernel, by decide +kernel⟩
abbrev s_end_of : Stmt := top 17
theorem sc_end_of : FnScope ["text", "lines"] ["text"] (defScope s_end_of) := ⟨rfl, rfl, rfl, by decide +kernel, rfl, by decide +kernel, by decide +kernel⟩
abbrev s_law_cell : Stmt := top 19
theorem sc_law_cell : FnScope ["script", "k"] ["script", "k"] (defScope s_law_cell) := ⟨rfl, rfl, rfl, by decide +kernel, rfl, by decide +kernel, by decide +kernel⟩
abbrev s_law_draws : Stmt := top 20
theorem sc_law_draws : FnScope ["cell", "count", "number", "great", "found", "k", "mixed"] ["cell", "count"] (defScope s_law_draws) := ⟨rfl, rfl, rfl, by decide +kernel, rfl, by decide +kernel, by decide +kernel⟩
abbrev s_law_stream : Stmt := top 21
theorem sc_law_stream : FnScope ["script", "first", "count", "found", "k"] ["script", "first", "count"] (defScope s_law_stream) := ⟨rfl, rfl, rfl, by decide +kernel, rfl, by decide +kernel, by decide +kernel⟩
abbrev s_law_next : Stmt := top 22
theorem sc_law_next : FnScope ["stream", "many", "digits", "place", "value"] ["stream", "many"] (defScope s_law_next) := ⟨rfl, rfl, rfl, by decide +kernel, rfl, by decide +kernel, by decide +kernel⟩
abbrev s_law_word : Stmt := top 23
theorem sc_law_word : FnScope ["stream", "index", "letters", "size", "text", "k", "place", "word"] ["stream", "index"] (defScope s_law_word) := ⟨rfl, rfl, rfl, by decide +kernel, rfl, by decide +kernel, by decide +kernel⟩
abbrev s_law_is_integer : Stmt := top 24
theorem sc_law_is_integer : FnScope ["actual"] ["actual"] (defScope s_law_is_integer) := ⟨rfl, rfl, rfl, by decide +kernel, rfl, by decide +kernel, by decide +kernel⟩
abbrev s_law_same : Stmt := top 25
theorem sc_law_same : FnScope ["actual", "expected", "k"] ["actual", "expected"] (defScope s_law_same) := ⟨rfl, rfl, rfl, by decide +kernel, rfl, by decide +kernel, by decide +kernel⟩
abbrev s_law_pair : Stmt := top 26
theorem sc_law_pair : FnScope ["stream", "kind", "word", "symbols"] ["stream"] (defScope s_law_pair) := ⟨rfl, rfl, rfl, by decide +kernel, rfl, by decide +kernel, by decide +kernel⟩
abbrev s_law : Stmt := top 27
theorem sc_law : FnScope ["script", "stream", "pairs", "k", "text", "signs", "line", "column", "char", "sign"] ["script"] (defScope s_law) := ⟨rfl, rfl, rfl, by decide +kernel, rfl, by decide +kernel, by decide +kernel⟩
structure Ad where
  f_read_signs : Addr
  f_sign_at : Addr
  f_run_length : Addr
  f_write_signs : Addr
  f_end_of : Addr
  f_law_cell : Addr
  f_law_draws : Addr
  f_law_stream : Addr
  f_law_next : Addr
  f_law_word : Addr
  f_law_is_integer : Addr
  f_law_same : Addr
  f_law_pair : Addr
  f_law : Addr
  d_read_signs : FuncData
  d_sign_at : FuncData
  d_run_length : FuncData
  d_write_signs : FuncData
  d_end_of : FuncData
  d_law_cell : FuncData
  d_law_draws : FuncData
  d_law_stream : FuncData
  d_law_next : FuncData
  d_law_word : FuncData
  d_law_is_integer : FuncData
  d_law_same : FuncData
  d_law_pair : FuncData
  d_law : FuncData
  t_SYMBOLS : Addr
  t_DIGITS : Tok
  t_LONGEST_NUMBER : Tok
  t_LETTERS : Tok
  t_LONGEST_WORD : Tok
  t_WORD_CHARACTERS : Tok
  t_LINE_ENDS : Addr
  t_NO_SPACE_AHEAD : Addr
  t_NO_SPACE_BEHIND : Addr
structure Txt (K : PySem.W.Frag) (mg : Str → Option Value) (A : Ad) : Prop where
  b_len : mg "len" = none
  b_int : mg "int" = none
  b_max : mg "max" = none
  b_str : mg "str" = none
  b_range : mg "range" = none
  b_abs : mg "abs" = none
  b_isinstance : mg "isinstance" = none
  b_bool : mg "bool" = none
  b_list : mg "list" = none
  b_tuple : mg "tuple" = none
  g_read_signs : mg "read_signs" = some (.ref A.f_read_signs)
  F_read_signs : Fun K "read_signs" "read_signs" s_read_signs A.f_read_signs A.d_read_signs
  B_read_signs : Binds K A.d_read_signs ["text"] []
  g_sign_at : mg "sign_at" = some (.ref A.f_sign_at)
  F_sign_at : Fun K "sign_at" "sign_at" s_sign_at A.f_sign_at A.d_sign_at
  B_sign_at : Binds K A.d_sign_at ["text", "at", "line", "column"] []
  g_run_length : mg "run_length" = some (.ref A.f_run_length)
  F_run_length : Fun K "run_length" "run_length" s_run_length A.f_run_length A.d_run_length
  B_run_length : Binds K A.d_run_length ["text", "at", "characters"] []
  g_write_signs : mg "write_signs" = some (.ref A.f_write_signs)
  F_write_signs : Fun K "write_signs" "write_signs" s_write_signs A.f_write_signs A.d_write_signs
  B_write_signs : Binds K A.d_write_signs ["signs"] []
  g_end_of : mg "end_of" = some (.ref A.f_end_of)
  F_end_of : Fun K "end_of" "end_of" s_end_of A.f_end_of A.d_end_of
  B_end_of : Binds K A.d_end_of ["text"] []
  g_law_cell : mg "_law_cell" = some (.ref A.f_law_cell)
  F_law_cell : Fun K "_law_cell" "_law_cell" s_law_cell A.f_law_cell A.d_law_cell
  B_law_cell : Binds K A.d_law_cell ["script", "k"] []
  g_law_draws : mg "_law_draws" = some (.ref A.f_law_draws)
  F_law_draws : Fun K "_law_draws" "_law_draws" s_law_draws A.f_law_draws A.d_law_draws
  B_law_draws : Binds K A.d_law_draws ["cell", "count"] []
  g_law_stream : mg "_law_stream" = some (.ref A.f_law_stream)
  F_law_stream : Fun K "_law_stream" "_law_stream" s_law_stream A.f_law_stream A.d_law_stream
  B_law_stream : Binds K A.d_law_stream ["script", "first", "count"] []
  g_law_next : mg "_law_next" = some (.ref A.f_law_next)
  F_law_next : Fun K "_law_next" "_law_next" s_law_next A.f_law_next A.d_law_next
  B_law_next : Binds K A.d_law_next ["stream", "many"] []
  g_law_word : mg "_law_word" = some (.ref A.f_law_word)
  F_law_word : Fun K "_law_word" "_law_word" s_law_word A.f_law_word A.d_law_word
  B_law_word : Binds K A.d_law_word ["stream", "index"] []
  g_law_is_integer : mg "_law_is_integer" = some (.ref A.f_law_is_integer)
  F_law_is_integer : Fun K "_law_is_integer" "_law_is_integer" s_law_is_integer A.f_law_is_integer A.d_law_is_integer
  B_law_is_integer : Binds K A.d_law_is_integer ["actual"] []
  g_law_same : mg "_law_same" = some (.ref A.f_law_same)
  F_law_same : Fun K "_law_same" "_law_same" s_law_same A.f_law_same A.d_law_same
  B_law_same : Binds K A.d_law_same ["actual", "expected"] []
  g_law_pair : mg "_law_pair" = some (.ref A.f_law_pair)
  F_law_pair : Fun K "_law_pair" "_law_pair" s_law_pair A.f_law_pair A.d_law_pair
  B_law_pair : Binds K A.d_law_pair ["stream"] []
  g_law : mg "law" = some (.ref A.f_law)
  F_law : Fun K "law" "law" s_law A.f_law A.d_law
  B_law : Binds K A.d_law ["script"] []
  g_SYMBOLS : mg "SYMBOLS" = some (.ref A.t_SYMBOLS)
  q_SYMBOLS : ∀ H : Hp, SqT K H A.t_SYMBOLS [.str "<=", .str ">=", .str "==", .str "||", .str ",", .str ";", .str ":", .str "[", .str "]", .str "(", .str ")", .str "{", .str "}", .str "=", .str "+", .str "-", .str "*", .str "<", .str ">"]
  g_DIGITS : mg "DIGITS" = some (.str "0123456789" A.t_DIGITS)
  g_LONGEST_NUMBER : mg "LONGEST_NUMBER" = some (.int 9 A.t_LONGEST_NUMBER)
  g_LETTERS : mg "LETTERS" = some (.str "abcdefghijklmnopqrstuvwxyzABCDEFGHIJKLMNOPQRSTUVWXYZ" A.t_LETTERS)
  g_LONGEST_WORD : mg "LONGEST_WORD" = some (.int 20 A.t_LONGEST_WORD)
  g_WORD_CHARACTERS : mg "WORD_CHARACTERS" = some (.str "abcdefghijklmnopqrstuvwxyzABCDEFGHIJKLMNOPQRSTUVWXYZ0123456789_" A.t_WORD_CHARACTERS)
  g_LINE_ENDS : mg "LINE_ENDS" = some (.ref A.t_LINE_ENDS)
  q_LINE_ENDS : ∀ H : Hp, SqT K H A.t_LINE_ENDS [.str ";", .str "{", .str "}", .str "||"]
  g_NO_SPACE_AHEAD : mg "NO_SPACE_AHEAD" = some (.ref A.t_NO_SPACE_AHEAD)
  q_NO_SPACE_AHEAD : ∀ H : Hp, SqT K H A.t_NO_SPACE_AHEAD [.str ",", .str ";", .str ":", .str "[", .str "]", .str "(", .str ")"]
  g_NO_SPACE_BEHIND : mg "NO_SPACE_BEHIND" = some (.ref A.t_NO_SPACE_BEHIND)
  q_NO_SPACE_BEHIND : ∀ H : Hp, SqT K H A.t_NO_SPACE_BEHIND [.str "[", .str "("]
section
variable {P : Program} {w : World} {K : PySem.W.Frag} {mg : Str → Option Value} {base : Heap} {A : Ad}
/-- how many characters from the beginning on are among the given ones -/
def runL (chs : List Nat) (l : List Nat) : Nat := (l.takeWhile fun c => decide (c ∈ chs)).length
abbrev LETT : Str := "abcdefghijklmnopqrstuvwxyzABCDEFGHIJKLMNOPQRSTUVWXYZ"
abbrev DIGI : Str := "0123456789"
abbrev WORC : Str := "abcdefghijklmnopqrstuvwxyzABCDEFGHIJKLMNOPQRSTUVWXYZ0123456789_"
def SYMS : List Str := ["<=", ">=", "==", "||", ",", ";", ":", "[", "]", "(", ")", "{", "}", "=", "+", "-", "*", "<", ">"]
theorem runL_cons (chs : List Nat) (c : Nat) (r : List Nat) : runL chs (c :: r) = if c ∈ chs then runL chs r + 1 else 0 := by
  unfold runL
  by_cases h : c ∈ chs
  · rw [List.takeWhile_cons_of_pos (by simpa using h), if_pos h]
    rfl
  · rw [List.takeWhile_cons_of_neg (by simpa using h), if_neg h]
    rfl
theorem runL_le (chs l : List Nat) : runL chs l ≤ l.length := by
  induction l with
  | nil => exact Nat.zero_le _
  | cons c r ih =>
    rw [runL_cons, List.length_cons]
    split <;> omega
/-- the first symbol that stands at the beginning -/
def symAt (l : List Nat) : List Str → Option Str
  | [] => none
  | s :: r => if l.take s.length = tl s then some s else symAt l r
/-- what sign stands at the beginning of a text, and its length -/
inductive SignOf : List Nat → Str → Nat → Prop where
  | word (l : List Nat) (c : Nat) (r : List Nat) : l = c :: r → c ∈ tl LETT → runL (tl WORC) l ≤ 20 → SignOf l "word" (runL (tl WORC) l)
  | number (l : List Nat) (c : Nat) (r : List Nat) : l = c :: r → c ∉ tl LETT → c ∈ tl DIGI → runL (tl DIGI) l ≤ 9 → SignOf l "number" (runL (tl DIGI) l)
  | symbol (l : List Nat) (c : Nat) (r : List Nat) (s : Str) : l = c :: r → c ∉ tl LETT → c ∉ tl DIGI → symAt l SYMS = some s → SignOf l "symbol" s.length
def sp_run_length (K : PySem.W.Frag) : Sp := fun vs H Q _ => ∃ (z ch : Str) (at_ : Nat), vs = [.str z, .int (at_ : Int), .str ch] ∧ z.length ≤ 1000000 ∧ at_ ≤ (tl z).length ∧ Q (.int (runL (tl ch) ((tl z).drop at_) : Int)) H
def sp_sign_at (K : PySem.W.Frag) : Sp := fun vs H Q _ => ∃ (z : Str) (at_ line col : Nat) (k : Str) (n : Nat), vs = [.str z, .int (at_ : Int), .int (line : Int), .int (col : Int)] ∧ z.length ≤ 1000000 ∧ at_ ≤ (tl z).length ∧ SignOf ((tl z).drop at_) k n ∧
  ∀ H' t y, Same H H' → H' t = some (.tup [.str k, .str y]) → tl y = ((tl z).drop at_).take n → Q (.ref t) H'
theorem ok_run_length (T : Txt K mg A) : FnOk P w K mg base CX0 1 A.f_run_length A.d_run_length ["text", "at", "characters"] (sp_run_length K) := by
  refine T.F_run_length.ok sc_run_length (fun vs H Q E h => ?_) (fun cdv A' outer s H vs Q E hr h => ?_)
  · obtain ⟨z, ch, at_, rfl, _⟩ := h
    rfl
  · obtain ⟨z, ch, at_, rfl, hz, ha, q⟩ := h
    have big : ∀ n : Nat, n ≤ 1000000 → n ≤ sizeLine := fun n h => Nat.le_trans h (by decide)
    refine ⟨_, (pss_cons (ps_set (i := 3) sc_run_length.nd rfl (Or.inl rfl) (pv 1)) 
    (pss_cons (ps_while PassesOwn.never (PW.pt (pw_and (pt_cmpR op_lt (pv 3) (pe_callB call_len_str (by rfl) T.b_len (by decide +kernel) (pa_cons (pv 0) pa_nil)) (nomark _)) (pw_and1 (pt_cmpR op_in_sign (pe_ix ix_str (pv 0) (pv 3) (fun _ _ => rfl)) (pv 2) (by rfl))))) 
      (pss_one (ps_aug (i := 3) sc_run_length.nd rfl (Or.inl rfl) pe_int ip_add))) 
    (pss_one (ps_ret (pe_op op_sub (pv 3) (pv 1)))))), ?_⟩
    walk_at "wp"
    obtain ⟨W, hW⟩ : ∃ W : Nat → St → Hp → Prop, ∀ m σ H', W m σ H' ↔ H' = H ∧ ∃ b : Nat, m = (tl z).length - b ∧ at_ ≤ b ∧ b ≤ (tl z).length ∧ σ = [some (V.str z), some (V.int (at_ : Int)), some (V.str ch), some (V.int (b : Int))] ∧ runL (tl ch) ((tl z).drop at_) = (b - at_) + runL (tl ch) ((tl z).drop b) := ⟨_, fun _ _ _ => Iff.rfl⟩
    refine loopw W _ ((hW _ _ _).mpr ⟨rfl, at_, rfl, Nat.le_refl _, ha, rfl, by rw [Nat.sub_self, Nat.zero_add]⟩) ?_
    intro m σ H1 hw
    obtain ⟨rfl, b, rfl, hb1, hb2, rfl, e⟩ := (hW _ _ _).mp hw
    walk_at "wp"
    refine ⟨big _ hz, ?_⟩
    by_cases hb : b < (tl z).length
    · rw [if_pos (decide_eq_true (by rw [len_tl]; omega))]
      refine ⟨big _ hz, (tl z)[b], atI_nat (List.getElem?_eq_getElem hb), ?_⟩
      rw [List.drop_eq_getElem_cons hb, runL_cons] at e
      by_cases hm : (tl z)[b] ∈ tl ch
      · rw [if_pos hm] at e
        rw [if_pos (decide_eq_true hm)]
        refine turn_of ?_
        walk_at "wp"
        exact ⟨_, by omega, (hW _ _ _).mpr ⟨rfl, b + 1, rfl, by omega, by omega, by rw [Int.natCast_add]; rfl, by omega⟩⟩
      · rw [if_neg hm] at e
        rw [if_neg (by rw [decide_eq_true_eq]; exact hm)]
        rw [e, Nat.add_zero, Int.ofNat_sub hb1] at q
        exact q
    · rw [if_neg (by rw [decide_eq_true_eq, len_tl]; omega)]
      rw [List.drop_eq_nil_of_le (show (tl z).length ≤ b by omega)] at e
      rw [e, show runL (tl ch) [] = 0 from rfl, Nat.add_zero, Int.ofNat_sub hb1] at q
      exact q
theorem ok_sign_at (T : Txt K mg A) : FnOk P w K mg base CX0 2 A.f_sign_at A.d_sign_at ["text", "at", "line", "column"] (sp_sign_at K) := by
  have G_run_length := ok_run_length (P := P) (w := w) (base := base) T
  refine T.F_sign_at.ok sc_sign_at (fun vs H Q E h => ?_) (fun cdv A' outer s H vs Q E hr h => ?_)
  · obtain ⟨z, at_, line, col, k, n, rfl, _⟩ := h
    rfl
  · obtain ⟨z, at_, line, col, k, n, rfl, hz, ha, hS, q⟩ := h
    have big : ∀ n : Nat, n ≤ 1000000 → n ≤ sizeLine := fun n h => Nat.le_trans h (by decide)
    refine ⟨_, (pss_cons (ps_if (pt_cmpR op_in_sign (pe_ix ix_str (pv 0) (pv 1) (fun _ _ => rfl)) (pe_glob (v := .str "abcdefghijklmnopqrstuvwxyzABCDEFGHIJKLMNOPQRSTUVWXYZ") rfl T.g_LETTERS ⟨_, rfl⟩) (by rfl)) 
      (pss_cons (ps_set (i := 4) sc_sign_at.nd rfl (Or.inl rfl) (pe_call G_run_length hr (by rfl) T.g_run_length T.F_run_length.kp T.B_run_length .nil pass0 (pa_cons (pv 0) (pa_cons (pv 1) (pa_cons (pe_glob (v := .str "abcdefghijklmnopqrstuvwxyzABCDEFGHIJKLMNOPQRSTUVWXYZ0123456789_") rfl T.g_WORD_CHARACTERS ⟨_, rfl⟩) pa_nil))))) 
      (pss_cons (ps_if (pt_cmpR op_gt (pv 4) (pe_glob (v := .int 20) rfl T.g_LONGEST_WORD ⟨_, rfl⟩) (nomark _)) 
        (pss_one ps_never) pss_nil) 
      (pss_one (ps_ret (pe_tup (pa_cons pe_str (pa_cons (pe_slice sl_str (pv 0) (po_some (pv 1)) (po_some (pe_op op_add (pv 1) (pv 4)))) pa_nil))))))) pss_nil) 
    (pss_cons (ps_if (pt_cmpR op_in_sign (pe_ix ix_str (pv 0) (pv 1) (fun _ _ => rfl)) (pe_glob (v := .str "0123456789") rfl T.g_DIGITS ⟨_, rfl⟩) (by rfl)) 
      (pss_cons (ps_set (i := 4) sc_sign_at.nd rfl (Or.inl rfl) (pe_call G_run_length hr (by rfl) T.g_run_length T.F_run_length.kp T.B_run_length .nil pass0 (pa_cons (pv 0) (pa_cons (pv 1) (pa_cons (pe_glob (v := .str "0123456789") rfl T.g_DIGITS ⟨_, rfl⟩) pa_nil))))) 
      (pss_cons (ps_if (pt_cmpR op_gt (pv 4) (pe_glob (v := .int 9) rfl T.g_LONGEST_NUMBER ⟨_, rfl⟩) (nomark _)) 
        (pss_one ps_never) pss_nil) 
      (pss_one (ps_ret (pe_tup (pa_cons pe_str (pa_cons (pe_slice sl_str (pv 0) (po_some (pv 1)) (po_some (pe_op op_add (pv 1) (pv 4)))) pa_nil))))))) pss_nil) 
    (pss_cons (ps_for PassesOwn.never rfl (pi_tup (pe_glob (v := .ref A.t_SYMBOLS) rfl T.g_SYMBOLS rfl)) (pg_name (i := 5) sc_sign_at.nd rfl (Or.inl rfl)) 
      (pss_one (ps_if (pt_cmpR op_eq (pe_slice sl_str (pv 0) (po_some (pv 1)) (po_some (pe_op op_add (pv 1) (pe_callB call_len_str (by rfl) T.b_len (by decide +kernel) (pa_cons (pv 5) pa_nil))))) (pv 5) (nomark _)) 
        (pss_one (ps_ret (pe_tup (pa_cons pe_str (pa_cons (pv 5) pa_nil))))) pss_nil))) 
    (pss_one ps_never)))), ?_⟩
    walk_at "wp"
    refine ⟨big _ hz, ?_⟩
    have hat : ∀ (l : List Nat) (c : Nat) (r : List Nat), (tl z).drop at_ = l → l = c :: r → atI z.cps.toList (at_ : Int) = some c := fun l c r e1 e2 => by
      refine atI_nat (xs := tl z) ?_
      have e3 := congrArg (fun x : List Nat => x[0]?) (e1.trans e2)
      simpa using e3
    have hcut : ∀ k : Nat, tl (cutS z (some (at_ : Int)) (some ((at_ : Int) + (k : Int)))) = ((tl z).drop at_).take k := fun k => cut_mid z at_ k
    have s2 : 2 ≤ sizeLine := by decide
    generalize el : (tl z).drop at_ = l at hS q hcut
    cases hS with
    | word c r e hc hn =>
      refine ⟨c, hat _ _ _ el e, ?_⟩
      rw [if_pos (decide_eq_true hc)]
      refine ⟨z, WORC, at_, rfl, hz, ha, ?_⟩
      rw [el]
      walk_at "wp"
      rw [if_neg (by rw [decide_eq_true_eq]; omega)]
      exact ⟨big _ hz, s2, fun t nt => q _ t _ (same_upd nt) upd_same (hcut _)⟩
    | number c r e hc hd hn =>
      refine ⟨c, hat _ _ _ el e, ?_⟩
      rw [if_neg (by rw [decide_eq_true_eq]; exact hc)]
      refine ⟨big _ hz, c, hat _ _ _ el e, ?_⟩
      rw [if_pos (decide_eq_true hd)]
      refine ⟨z, DIGI, at_, rfl, hz, ha, ?_⟩
      rw [el]
      walk_at "wp"
      rw [if_neg (by rw [decide_eq_true_eq]; omega)]
      exact ⟨big _ hz, s2, fun t nt => q _ t _ (same_upd nt) upd_same (hcut _)⟩
    | symbol c r s0 e hc hd hs =>
      refine ⟨c, hat _ _ _ el e, ?_⟩
      rw [if_neg (by rw [decide_eq_true_eq]; exact hc)]
      refine ⟨big _ hz, c, hat _ _ _ el e, ?_⟩
      rw [if_neg (by rw [decide_eq_true_eq]; exact hd)]
      refine ⟨⟨_, T.q_SYMBOLS H⟩, ?_⟩
      obtain ⟨Pv, hPv⟩ : ∃ Pv : Nat → St → Hp → Prop, ∀ i σ H', Pv i σ H' ↔ H' = H ∧ symAt l (SYMS.drop i) = some s0 ∧ ∃ v5, σ = [some (V.str z), some (V.int (at_ : Int)), some (V.int (line : Int)), some (V.int (col : Int)), none, v5] := ⟨_, fun _ _ _ => Iff.rfl⟩
      refine loop_it (walk_tup (xs := SYMS.map V.str)) Pv ((hPv _ _ _).mpr ⟨rfl, hs, none, rfl⟩) (fun i σ H' _ pw => T.q_SYMBOLS H') ?_ ?_
      · intro i x σ H1 H2 hi pw y
        obtain ⟨rfl, e2, v5, rfl⟩ := (hPv _ _ _).mp pw
        obtain ⟨rfl, ex⟩ := yat_at y
        rw [List.length_map] at hi
        rw [List.getElem?_map, List.getElem?_eq_getElem hi] at ex
        cases ex
        have hlen : SYMS[i].length ≤ 1000 := (show ∀ s ∈ SYMS, s.length ≤ 1000 by decide +kernel) _ (List.getElem_mem hi)
        rw [List.drop_eq_getElem_cons hi] at e2
        generalize SYMS[i] = sy at *
        walk_at "wp"
        refine ⟨big _ (by omega), big _ hz, ?_⟩
        have e3 : (cutS z (some (at_ : Int)) (some ((at_ : Int) + (sy.length : Int))) = sy) ↔ l.take sy.length = tl sy := by
          rw [← hcut]
          exact ⟨fun h => by rw [h], fun h => ext_tl h⟩
        by_cases hm : l.take sy.length = tl sy
        · rw [if_pos (decide_eq_true (e3.mpr hm))]
          have e4 : sy = s0 := by
            unfold symAt at e2
            rw [if_pos hm] at e2
            exact Option.some.inj e2
          subst e4
          exact ⟨s2, fun t nt => q _ t _ (same_upd nt) upd_same hm.symm⟩
        · rw [if_neg (by rw [decide_eq_true_eq, e3]; exact hm)]
          unfold symAt at e2
          rw [if_neg hm] at e2
          exact (hPv _ _ _).mpr ⟨rfl, e2, _, rfl⟩
      · intro σ H1 pw
        obtain ⟨rfl, e2, v5, rfl⟩ := (hPv _ _ _).mp pw
        exfalso
        rw [List.length_map, List.drop_length] at e2
        cases e2
structure Sg where
  k : Str
  v : V
  line : Nat
  col : Nat
def Sg.tup (g : Sg) : List V := [.str g.k, g.v, .int (g.line : Int), .int (g.col : Int)]
/-- the value of a sign that is written so -/
inductive ValOf : Str → Str → V → Prop where
  | num (y : Str) (m : Int) : PySem.intText? y = some m → y.length ≤ 640 → ValOf "number" y (.int m)
  | oth (k y : Str) : k ≠ "number" → ValOf k y (.str y)
/-- the signs of a text from a place on -/
inductive Lex : List Nat → Nat → Nat → List Sg → Prop where
  | nil (l c : Nat) : Lex [] l c []
  | nl {r : List Nat} {l c : Nat} {s : List Sg} : Lex r (l + 1) 1 s → Lex (10 :: r) l c s
  | sp {x : Nat} {r : List Nat} {l c : Nat} {s : List Sg} : x = 32 ∨ x = 9 → Lex r l (c + 1) s → Lex (x :: r) l c s
  | sg {x : Nat} {r : List Nat} {l c : Nat} (n : Nat) (s : List Sg) (k y : Str) (v : V) : x ≠ 10 → x ≠ 32 → x ≠ 9 → SignOf (x :: r) k n → 1 ≤ n → n ≤ r.length + 1 → tl y = (x :: r).take n → ValOf k y v → Lex ((x :: r).drop n) l (c + n) s → Lex (x :: r) l c (⟨k, v, l, c⟩ :: s)
def sp_read_signs (K : PySem.W.Frag) : Sp := fun vs H Q _ => ∃ (z : Str) (s : List Sg), vs = [.str z] ∧ z.length ≤ 1000000 ∧ s.length ≤ 900 ∧ Lex (tl z) 1 1 s ∧
  ∀ H' t (ags : List (Addr × Sg)), Same H H' → H' t = some (.lst (ags.map fun p => V.ref p.1)) → H t = none → ags.map (·.2) = s → (∀ p ∈ ags, H' p.1 = some (.tup p.2.tup)) → Q (.ref t) H'
theorem ok_read_signs (T : Txt K mg A) : FnOk P w K mg base CX0 3 A.f_read_signs A.d_read_signs ["text"] (sp_read_signs K) := by
  have G_sign_at := ok_sign_at (P := P) (w := w) (base := base) T
  refine T.F_read_signs.ok sc_read_signs (fun vs H Q E h => ?_) (fun cdv A' outer s H vs Q E hr h => ?_)
  · obtain ⟨z, s, rfl, _⟩ := h
    rfl
  · obtain ⟨z, sgs, rfl, hz, hn, hL, q⟩ := h
    have big : ∀ n : Nat, n ≤ 1000000 → n ≤ sizeLine := fun n h => Nat.le_trans h (by decide)
    refine ⟨_, (pss_cons (ps_set (i := 1) sc_read_signs.nd rfl (Or.inl rfl) (pe_lst pa_nil)) 
    (pss_cons (ps_set (i := 2) sc_read_signs.nd rfl (Or.inl rfl) pe_int) 
    (pss_cons (ps_set (i := 3) sc_read_signs.nd rfl (Or.inl rfl) pe_int) 
    (pss_cons (ps_set (i := 4) sc_read_signs.nd rfl (Or.inl rfl) pe_int) 
    (pss_cons (ps_while PassesOwn.never (pt_cmpR op_lt (pv 2) (pe_callB call_len_str (by rfl) T.b_len (by decide +kernel) (pa_cons (pv 0) pa_nil)) (nomark _)) 
      (pss_one (ps_if (pt_cmpR op_eq (pe_ix ix_str (pv 0) (pv 2) (fun _ _ => rfl)) pe_str (nomark _)) 
        (pss_cons (ps_aug (i := 2) sc_read_signs.nd rfl (Or.inl rfl) pe_int ip_add) 
        (pss_cons (ps_aug (i := 3) sc_read_signs.nd rfl (Or.inl rfl) pe_int ip_add) 
        (pss_one (ps_set (i := 4) sc_read_signs.nd rfl (Or.inl rfl) (pv 2))))) 
        (pss_one (ps_if (pt_cmpR op_in_sign (pe_ix ix_str (pv 0) (pv 2) (fun _ _ => rfl)) pe_str (by rfl)) 
          (pss_one (ps_aug (i := 2) sc_read_signs.nd rfl (Or.inl rfl) pe_int ip_add)) 
          (pss_cons (ps_asg (pe_call G_sign_at hr (by rfl) T.g_sign_at T.F_sign_at.kp T.B_sign_at .nil pass0 (pa_cons (pv 0) (pa_cons (pv 2) (pa_cons (pv 3) (pa_cons (pe_op op_add (pe_op op_sub (pv 2) (pv 4)) pe_int) pa_nil))))) (pg_tup rfl (pgs_cons (pg_name (i := 5) sc_read_signs.nd rfl (Or.inl rfl)) (pgs_cons (pg_name (i := 6) sc_read_signs.nd rfl (Or.inl rfl)) pgs_nil)))) 
          (pss_cons (ps_set (i := 7) sc_read_signs.nd rfl (Or.inl rfl) (pe_ifExp (pt_cmpR op_eq (pv 5) pe_str (nomark _)) (pe_callTy call_int_str (by rfl) T.b_int (by decide +kernel) (pa_cons (pv 6) pa_nil)) (pv 6))) 
          (pss_cons (ps_expr (pe_bm PySem.F.plainAttrs_list PySem.F.slot_list_append PySem.F.type_list_append mt_append (pv 1) (pa_cons (pe_tup (pa_cons (pv 5) (pa_cons (pv 7) (pa_cons (pv 3) (pa_cons (pe_op op_add (pe_op op_sub (pv 2) (pv 4)) pe_int) pa_nil))))) pa_nil))) 
          (pss_one (ps_aug (i := 2) sc_read_signs.nd rfl (Or.inl rfl) (pe_callB call_len_str (by rfl) T.b_len (by decide +kernel) (pa_cons (pv 6) pa_nil)) ip_add)))))))))) 
    (pss_one (ps_ret (pv 1)))))))), ?_⟩
    walk_at "wp"
    refine ⟨Nat.zero_le _, fun sl nsl => ?_⟩
    have eNL : Str.ofString "\n" = ⟨#[10]⟩ := by decide +kernel
    have eBT : (Str.ofString " \t").cps.toList = [32, 9] := by decide +kernel
    obtain ⟨W, hW⟩ : ∃ W : Nat → St → Hp → Prop, ∀ m σ H', W m σ H' ↔ ∃ (at_ line ls : Nat) (acc : List (Addr × Sg)) (rest : List Sg) (v5 v6 v7 : Option V), m = (tl z).length - at_ ∧ at_ ≤ (tl z).length ∧ ls ≤ at_ ∧ Lex ((tl z).drop at_) line (at_ - ls + 1) rest ∧
      Same H H' ∧ H' sl = some (.lst (acc.map fun p => V.ref p.1)) ∧ (∀ p ∈ acc, H' p.1 = some (.tup p.2.tup)) ∧ acc.map (·.2) ++ rest = sgs ∧
      σ = [some (V.str z), some (V.ref sl), some (V.int (at_ : Int)), some (V.int (line : Int)), some (V.int (ls : Int)), v5, v6, v7] := ⟨_, fun _ _ _ => Iff.rfl⟩
    refine loopw W _ ((hW _ _ _).mpr ⟨0, 1, 0, [], sgs, none, none, none, rfl, Nat.zero_le _, Nat.le_refl _, hL, same_upd nsl, upd_same, fun _ h => (by cases h), rfl, rfl⟩) ?_
    intro m σ H1 hw
    obtain ⟨at_, line, ls, acc, rest, v5, v6, v7, rfl, ha, hls, hLx, s1, eA, hA, hs, rfl⟩ := (hW _ _ _).mp hw
    walk_at "wp"
    refine ⟨big _ hz, ?_⟩
    by_cases hb : at_ < (tl z).length
    · rw [if_pos (decide_eq_true (by rw [len_tl]; omega))]
      rw [List.drop_eq_getElem_cons hb] at hLx
      refine turn_of ?_
      walk_at "wp"
      refine ⟨big _ hz, (tl z)[at_], atI_nat (List.getElem?_eq_getElem hb), ?_⟩
      have hx0 : atI z.cps.toList (at_ : Int) = some (tl z)[at_] := atI_nat (xs := tl z) (List.getElem?_eq_getElem hb)
      have hdr : (tl z).drop at_ = (tl z)[at_] :: (tl z).drop (at_ + 1) := List.drop_eq_getElem_cons hb
      have hlr : ((tl z).drop (at_ + 1)).length = (tl z).length - (at_ + 1) := List.length_drop
      generalize ex : (tl z)[at_] = x at hLx hx0 hdr
      generalize er : (tl z).drop (at_ + 1) = r at hLx hdr hlr
      rw [eNL]
      cases hLx with
      | nl h =>
        rw [if_pos (decide_eq_true rfl)]
        exact ⟨_, by omega, (hW _ _ _).mpr ⟨at_ + 1, line + 1, at_ + 1, acc, rest, v5, v6, v7, rfl, by omega, Nat.le_refl _, by rw [er, Nat.sub_self]; exact h, s1, eA, hA, hs, by simp only [Int.natCast_add, Int.natCast_one]⟩⟩
      | sp hx h =>
        rw [if_neg (by rw [decide_eq_true_eq, sgn_eq]; omega)]
        refine ⟨big _ hz, x, hx0, ?_⟩
        rw [eBT, if_pos (decide_eq_true (by simp; omega))]
        exact ⟨_, by omega, (hW _ _ _).mpr ⟨at_ + 1, line, ls, acc, rest, v5, v6, v7, rfl, by omega, by omega, by rw [er, show at_ + 1 - ls + 1 = at_ - ls + 1 + 1 by omega]; exact h, s1, eA, hA, hs, by simp only [Int.natCast_add, Int.natCast_one]⟩⟩
      | sg n s0 k y vv n1 n2 n3 hS h1 h2 hy hv h =>
        rw [if_neg (by rw [decide_eq_true_eq, sgn_eq]; omega)]
        refine ⟨big _ hz, x, hx0, ?_⟩
        rw [eBT, if_neg (by simp; omega)]
        refine ⟨z, at_, line, at_ - ls + 1, _, _, by rw [Int.natCast_add, Int.ofNat_sub hls]; rfl, hz, by omega, by rw [hdr]; exact hS, fun H3 t y' s3 e3 hy' => ?_⟩
        rw [hdr, ← hy] at hy'
        have eyy := ext_tl hy'
        subst eyy
        walk_at "wp"
        refine ⟨_, SqT.of e3, rfl, _, _, rfl, _, _, rfl, rfl, ?_⟩
        walk_at "wp"
        have eS := s3 _ _ eA
        have ty : tyV K "list" (V.ref sl) H3 := .inl ⟨rfl, _, SqL.of eS⟩
        have ecol : (at_ : Int) - (ls : Int) + 1 = ((at_ - ls + 1 : Nat) : Int) := by rw [Int.natCast_add, Int.ofNat_sub hls]; rfl
        have hln : y'.length = n := by
          rw [len_tl, hy, List.length_take, List.length_cons]
          omega
        have hacc : acc.length ≤ 900 := by
          have e := congrArg List.length hs
          rw [List.length_append, List.length_map] at e
          omega
        have fin : ∀ u : V, u = vv → tyV K "list" (V.ref sl) H3 ∧ 4 ≤ sizeLine ∧ ∀ (p : Addr), H3 p = none → ∃ x, upd H3 p (.tup [V.str k, u, V.int (line : Int), V.int ((at_ : Int) - (ls : Int) + 1)]) sl = some (.lst x) ∧ x.length < sizeLine ∧ y'.length ≤ sizeLine ∧
            ∃ m', m' < (tl z).length - at_ ∧ W m' [some (V.str z), some (V.ref sl), some (V.int ((at_ : Int) + (y'.length : Int))), some (V.int (line : Int)), some (V.int (ls : Int)), some (V.str k), some (V.str y'), some u]
              (upd (upd H3 p (.tup [V.str k, u, V.int (line : Int), V.int ((at_ : Int) - (ls : Int) + 1)])) sl (.lst (x ++ [V.ref p]))) := by
          rintro u rfl
          refine ⟨ty, by decide, fun p np => ?_⟩
          have nps : sl ≠ p := ne_of_none eS np
          have s4 := same_upd (o := .tup [V.str k, u, V.int (line : Int), V.int ((at_ : Int) - (ls : Int) + 1)]) np
          refine ⟨_, s4 _ _ eS, small1000 (by rw [List.length_map]; omega), big _ (by have := len_tl z; omega), (tl z).length - (at_ + n), by omega, (hW _ _ _).mpr ⟨at_ + n, line, ls, acc ++ [(p, ⟨k, u, line, at_ - ls + 1⟩)], s0, some (V.str k), some (V.str y'), some u, rfl, by omega, by omega, ?_, ?_, ?_, ?_, ?_, ?_⟩⟩
          · rw [← List.drop_drop, hdr, show at_ + n - ls + 1 = at_ - ls + 1 + n by omega]
            exact h
          · exact same_upd2 ((s1.trans s3).trans s4) nsl
          · rw [upd_same, List.map_append]
            rfl
          · intro pp hp
            rcases List.mem_append.mp hp with hp | hp
            · have e := s4 _ _ (s3 _ _ (hA _ hp))
              rw [upd_ne (ne_of e (s4 _ _ eS) (by intro z; cases z))]
              exact e
            · rw [List.mem_singleton.mp hp, upd_ne nps.symm, upd_same, Sg.tup, ecol]
          · rw [List.map_append, ← hs, List.append_assoc]
            rfl
          · rw [hln, Int.natCast_add]
        cases hv with
        | num _ m hm hl6 =>
          rw [if_pos (decide_eq_true rfl)]
          exact ⟨m, hm, hl6, fin _ rfl⟩
        | oth _ _ hk =>
          rw [if_neg (by rw [decide_eq_true_eq]; exact hk)]
          exact fin _ rfl
    · rw [if_neg (by rw [decide_eq_true_eq, len_tl]; omega)]
      rw [List.drop_eq_nil_of_le (show (tl z).length ≤ at_ by omega)] at hLx
      cases hLx
      rw [List.append_nil] at hs
      exact q _ _ acc s1 eA nsl hs hA
/-- equal data, n levels deep -/
inductive SameD (K : PySem.W.Frag) (H : Hp) : Nat → V → V → Prop where
  | str (n : Nat) (z : Str) : SameD K H n (.str z) (.str z)
  | int (n : Nat) (i : Int) : SameD K H n (.int i) (.int i)
  | tup (n : Nat) (a b : Addr) (xs ys : List V) : SqT K H a xs → SqT K H b ys → xs.length = ys.length → ys.length ≤ 1000 → (∀ (i : Nat) x y, xs[i]? = some x → ys[i]? = some y → SameD K H n x y) → SameD K H (n + 1) (.ref a) (.ref b)
  | lst (n : Nat) (a b : Addr) (xs ys : List V) : SqL K H a xs → SqL K H b ys → xs.length = ys.length → ys.length ≤ 1000 → (∀ (i : Nat) x y, xs[i]? = some x → ys[i]? = some y → SameD K H n x y) → SameD K H (n + 1) (.ref a) (.ref b)
def sp_law_is_integer (K : PySem.W.Frag) : Sp := fun vs H Q _ => ∃ i : Int, vs = [.int i] ∧ Q (.bl true) H
def sp_law_same (n : Nat) (K : PySem.W.Frag) : Sp := fun vs H Q _ => ∃ x y : V, vs = [x, y] ∧ SameD K H n x y ∧ Q (.bl true) H
theorem ok_law_is_integer (T : Txt K mg A) : FnOk P w K mg base CX0 1 A.f_law_is_integer A.d_law_is_integer ["actual"] (sp_law_is_integer K) := by
  refine T.F_law_is_integer.ok sc_law_is_integer (fun vs H Q E h => ?_) (fun cdv A' outer s H vs Q E hr h => ?_)
  · obtain ⟨i, rfl, _⟩ := h
    rfl
  · obtain ⟨i, rfl, q⟩ := h
    refine ⟨_, (pss_one (ps_ret (pe_and (pe_callB call_isi (by rfl) T.b_isinstance (by decide +kernel) (pa_cons (pv 0) (pa_cons (pe_bltn (v := .ty "int") (by rfl) T.b_int (by decide +kernel) rfl) pa_nil))) (pe_one (pe_not (pe_callB call_isi (by rfl) T.b_isinstance (by decide +kernel) (pa_cons (pv 0) (pa_cons (pe_bltn (v := .ty "bool") (by rfl) T.b_bool (by decide +kernel) rfl) pa_nil)))))))), ?_⟩
    walk_at "wp"
    refine isi ty_int (r := true) (by decide +kernel) ?_
    walk_at "wp"
    refine isi ty_int (r := false) (by decide +kernel) ?_
    walk_at "wp"
    exact q
theorem ok_law_same_s (T : Txt K mg A) (lv : Nat) (hlv : 1 ≤ lv) (n : Nat) (G_law_same : ∀ m, n = m + 1 → FnOk P w K mg base CX0 lv A.f_law_same A.d_law_same ["actual", "expected"] (sp_law_same m K)) : FnOk P w K mg base CX0 (lv + 1) A.f_law_same A.d_law_same ["actual", "expected"] (sp_law_same n K) := by
  have G_law_is_integer := ok_law_is_integer (P := P) (w := w) (base := base) T
  refine T.F_law_same.ok sc_law_same (fun vs H Q E h => ?_) (fun cdv A' outer s H vs Q E hr h => ?_)
  · obtain ⟨x, y, rfl, _⟩ := h
    rfl
  · obtain ⟨x, y, rfl, hS, q⟩ := h
    cases n with
    | zero =>
      refine ⟨_, (pss_cons (ps_if (pt_cmpR op_isN (pv 1) pe_non (nomark _)) 
      (pss_one (ps_ret (pe_cmpR op_isN (pv 0) pe_non (nomark _)))) pss_nil) 
    (pss_cons (ps_if (pt_val (pe_callB call_isi (by rfl) T.b_isinstance (by decide +kernel) (pa_cons (pv 1) (pa_cons (pe_bltn (v := .ty "bool") (by rfl) T.b_bool (by decide +kernel) rfl) pa_nil)))) 
      (pss_one (ps_ret (pe_and (pe_callB call_isi (by rfl) T.b_isinstance (by decide +kernel) (pa_cons (pv 0) (pa_cons (pe_bltn (v := .ty "bool") (by rfl) T.b_bool (by decide +kernel) rfl) pa_nil))) (pe_one (pe_cmpR op_eq (pv 0) (pv 1) (nomark _)))))) pss_nil) 
    (pss_cons (ps_if (pt_val (pe_callB call_isi (by rfl) T.b_isinstance (by decide +kernel) (pa_cons (pv 1) (pa_cons (pe_bltn (v := .ty "int") (by rfl) T.b_int (by decide +kernel) rfl) pa_nil)))) 
      (pss_one (ps_ret (pe_and (pe_call G_law_is_integer (hr.mono (by omega)) (by rfl) T.g_law_is_integer T.F_law_is_integer.kp T.B_law_is_integer .nil pass0 (pa_cons (pv 0) pa_nil)) (pe_one (pe_cmpR op_eq (pv 0) (pv 1) (nomark _)))))) pss_nil) 
    (pss_cons (ps_if (pt_val (pe_callB call_isi (by rfl) T.b_isinstance (by decide +kernel) (pa_cons (pv 1) (pa_cons (pe_bltn (v := .ty "str") (by rfl) T.b_str (by decide +kernel) rfl) pa_nil)))) 
      (pss_one (ps_ret (pe_and (pe_callB call_isi (by rfl) T.b_isinstance (by decide +kernel) (pa_cons (pv 0) (pa_cons (pe_bltn (v := .ty "str") (by rfl) T.b_str (by decide +kernel) rfl) pa_nil))) (pe_one (pe_cmpR op_eq (pv 0) (pv 1) (nomark _)))))) pss_nil) 
    (pss_cons ps_never 
    (pss_cons ps_never 
    (pss_cons ps_never 
    (pss_cons ps_never 
    (pss_one (ps_ret pe_bl)))))))))), ?_⟩
      cases hS with
      | str z =>
        walk_at "wp"
        refine isi ty_str (r := false) (by decide +kernel) ?_
        walk_at "wp"
        refine isi ty_str (r := false) (by decide +kernel) ?_
        walk_at "wp"
        refine isi ty_str (r := true) (by decide +kernel) ?_
        walk_at "wp"
        refine isi ty_str (r := true) (by decide +kernel) ?_
        walk_at "wp"
        exact q
      | int i =>
        walk_at "wp"
        refine isi ty_int (r := false) (by decide +kernel) ?_
        walk_at "wp"
        refine isi ty_int (r := true) (by decide +kernel) ?_
        walk_at "wp"
        refine ⟨_, rfl, ?_⟩
        walk_at "wp"
        exact q
    | succ m =>
      have G_law_same := G_law_same m rfl
      refine ⟨_, (pss_cons (ps_if (pt_cmpR op_isN (pv 1) pe_non (nomark _)) 
      (pss_one (ps_ret (pe_cmpR op_isN (pv 0) pe_non (nomark _)))) pss_nil) 
    (pss_cons (ps_if (pt_val (pe_callB call_isi (by rfl) T.b_isinstance (by decide +kernel) (pa_cons (pv 1) (pa_cons (pe_bltn (v := .ty "bool") (by rfl) T.b_bool (by decide +kernel) rfl) pa_nil)))) 
      (pss_one (ps_ret (pe_and (pe_callB call_isi (by rfl) T.b_isinstance (by decide +kernel) (pa_cons (pv 0) (pa_cons (pe_bltn (v := .ty "bool") (by rfl) T.b_bool (by decide +kernel) rfl) pa_nil))) (pe_one (pe_cmpR op_eq (pv 0) (pv 1) (nomark _)))))) pss_nil) 
    (pss_cons (ps_if (pt_val (pe_callB call_isi (by rfl) T.b_isinstance (by decide +kernel) (pa_cons (pv 1) (pa_cons (pe_bltn (v := .ty "int") (by rfl) T.b_int (by decide +kernel) rfl) pa_nil)))) 
      (pss_one (ps_ret (pe_and (pe_call G_law_is_integer (hr.mono (by omega)) (by rfl) T.g_law_is_integer T.F_law_is_integer.kp T.B_law_is_integer .nil pass0 (pa_cons (pv 0) pa_nil)) (pe_one (pe_cmpR op_eq (pv 0) (pv 1) (nomark _)))))) pss_nil) 
    (pss_cons (ps_if (pt_val (pe_callB call_isi (by rfl) T.b_isinstance (by decide +kernel) (pa_cons (pv 1) (pa_cons (pe_bltn (v := .ty "str") (by rfl) T.b_str (by decide +kernel) rfl) pa_nil)))) 
      (pss_one (ps_ret (pe_and (pe_callB call_isi (by rfl) T.b_isinstance (by decide +kernel) (pa_cons (pv 0) (pa_cons (pe_bltn (v := .ty "str") (by rfl) T.b_str (by decide +kernel) rfl) pa_nil))) (pe_one (pe_cmpR op_eq (pv 0) (pv 1) (nomark _)))))) pss_nil) 
    (pss_cons (ps_if (PW.pt (pw_and (pt_val (pe_callB call_isi (by rfl) T.b_isinstance (by decide +kernel) (pa_cons (pv 1) (pa_cons (pe_bltn (v := .ty "tuple") (by rfl) T.b_tuple (by decide +kernel) rfl) pa_nil)))) (pw_and1 (pt_not (pt_val (pe_callB call_isi (by rfl) T.b_isinstance (by decide +kernel) (pa_cons (pv 0) (pa_cons (pe_bltn (v := .ty "tuple") (by rfl) T.b_tuple (by decide +kernel) rfl) pa_nil)))))))) 
      (pss_one (ps_ret pe_bl)) pss_nil) 
    (pss_cons (ps_if (PW.pt (pw_and (pt_val (pe_callB call_isi (by rfl) T.b_isinstance (by decide +kernel) (pa_cons (pv 1) (pa_cons (pe_bltn (v := .ty "list") (by rfl) T.b_list (by decide +kernel) rfl) pa_nil)))) (pw_and1 (pt_not (pt_val (pe_callB call_isi (by rfl) T.b_isinstance (by decide +kernel) (pa_cons (pv 0) (pa_cons (pe_bltn (v := .ty "list") (by rfl) T.b_list (by decide +kernel) rfl) pa_nil)))))))) 
      (pss_one (ps_ret pe_bl)) pss_nil) 
    (pss_cons (ps_if (pt_cmpR op_ne (pe_callB call_len_seq (by rfl) T.b_len (by decide +kernel) (pa_cons (pv 0) pa_nil)) (pe_callB call_len_seq (by rfl) T.b_len (by decide +kernel) (pa_cons (pv 1) pa_nil)) (nomark _)) 
      (pss_one (ps_ret pe_bl)) pss_nil) 
    (pss_cons (ps_for PassesOwn.never rfl (pi_range1 (by rfl) T.b_range (pa_cons (pe_callB call_len_seq (by rfl) T.b_len (by decide +kernel) (pa_cons (pv 1) pa_nil)) pa_nil)) (pg_name (i := 2) sc_law_same.nd rfl (Or.inl rfl)) 
      (pss_one (ps_if (pt_not (pt_val (pe_call G_law_same hr (by rfl) T.g_law_same T.F_law_same.kp T.B_law_same .nil pass0 (pa_cons (pe_ix ix_seq (pv 0) (pv 2) (fun _ _ => rfl)) (pa_cons (pe_ix ix_seq (pv 1) (pv 2) (fun _ _ => rfl)) pa_nil))))) 
        (pss_one (ps_ret pe_bl)) pss_nil))) 
    (pss_one (ps_ret pe_bl)))))))))), ?_⟩
      cases hS with
      | str z =>
        walk_at "wp"
        refine isi ty_str (r := false) (by decide +kernel) ?_
        walk_at "wp"
        refine isi ty_str (r := false) (by decide +kernel) ?_
        walk_at "wp"
        refine isi ty_str (r := true) (by decide +kernel) ?_
        walk_at "wp"
        refine isi ty_str (r := true) (by decide +kernel) ?_
        walk_at "wp"
        exact q
      | int i =>
        walk_at "wp"
        refine isi ty_int (r := false) (by decide +kernel) ?_
        walk_at "wp"
        refine isi ty_int (r := true) (by decide +kernel) ?_
        walk_at "wp"
        refine ⟨_, rfl, ?_⟩
        walk_at "wp"
        exact q
      | tup _ a b xs ys hx hy hl hn hs =>
        walk_at "wp"
        refine isi (ty_tup hy) (r := false) (by decide +kernel) ?_
        walk_at "wp"
        refine isi (ty_tup hy) (r := false) (by decide +kernel) ?_
        walk_at "wp"
        refine isi (ty_tup hy) (r := false) (by decide +kernel) ?_
        walk_at "wp"
        refine isi (ty_tup hy) (r := true) (by decide +kernel) ?_
        walk_at "wp"
        refine isi (ty_tup hx) (r := true) (by decide +kernel) ?_
        walk_at "wp"
        refine isi (ty_tup hy) (r := false) (by decide +kernel) ?_
        walk_at "wp"
        refine ⟨xs, .inr hx, ys, .inr hy, ?_⟩
        rw [if_neg (by simp [hl])]
        refine ⟨ys, .inr hy, by omega, by omega, ?_⟩
        refine loop_it (walk_range0 (n := ys.length)) (fun i σ H' => H' = H ∧ ∃ v, σ = [some (V.ref a), some (V.ref b), v]) ⟨rfl, _, rfl⟩ (fun _ _ _ _ _ => trivial) ?_ ?_
        · rintro i x σ H1 H2 hi ⟨rfl, v, rfl⟩ ⟨rfl, rfl⟩
          have ex : xs[i]? = some xs[i] := List.getElem?_eq_getElem (by omega)
          have ey : ys[i]? = some ys[i] := List.getElem?_eq_getElem hi
          walk_at "wp"
          refine .inr (.inl ⟨a, xs, _, _, rfl, rfl, hx, atI_nat ex, ?_⟩)
          refine .inr (.inl ⟨b, ys, _, _, rfl, rfl, hy, atI_nat ey, ?_⟩)
          refine ⟨_, _, rfl, hs i _ _ ex ey, ?_⟩
          walk_at "wp"
          exact ⟨_, rfl⟩
        · rintro σ H1 ⟨rfl, v, rfl⟩
          walk_at "wp"
          exact q
      | lst _ a b xs ys hx hy hl hn hs =>
        walk_at "wp"
        refine isi (ty_lst hy) (r := false) (by decide +kernel) ?_
        walk_at "wp"
        refine isi (ty_lst hy) (r := false) (by decide +kernel) ?_
        walk_at "wp"
        refine isi (ty_lst hy) (r := false) (by decide +kernel) ?_
        walk_at "wp"
        refine isi (ty_lst hy) (r := false) (by decide +kernel) ?_
        walk_at "wp"
        refine isi (ty_lst hy) (r := true) (by decide +kernel) ?_
        walk_at "wp"
        refine isi (ty_lst hx) (r := true) (by decide +kernel) ?_
        walk_at "wp"
        refine ⟨xs, .inl hx, ys, .inl hy, ?_⟩
        rw [if_neg (by simp [hl])]
        refine ⟨ys, .inl hy, by omega, by omega, ?_⟩
        refine loop_it (walk_range0 (n := ys.length)) (fun i σ H' => H' = H ∧ ∃ v, σ = [some (V.ref a), some (V.ref b), v]) ⟨rfl, _, rfl⟩ (fun _ _ _ _ _ => trivial) ?_ ?_
        · rintro i x σ H1 H2 hi ⟨rfl, v, rfl⟩ ⟨rfl, rfl⟩
          have ex : xs[i]? = some xs[i] := List.getElem?_eq_getElem (by omega)
          have ey : ys[i]? = some ys[i] := List.getElem?_eq_getElem hi
          walk_at "wp"
          refine .inl ⟨a, xs, _, _, rfl, rfl, hx, atI_nat ex, ?_⟩
          refine .inl ⟨b, ys, _, _, rfl, rfl, hy, atI_nat ey, ?_⟩
          refine ⟨_, _, rfl, hs i _ _ ex ey, ?_⟩
          walk_at "wp"
          exact ⟨_, rfl⟩
        · rintro σ H1 ⟨rfl, v, rfl⟩
          walk_at "wp"
          exact q
theorem ok_law_same_n (T : Txt K mg A) : ∀ n : Nat, FnOk P w K mg base CX0 (n + 2) A.f_law_same A.d_law_same ["actual", "expected"] (sp_law_same n K)
  | 0 => ok_law_same_s T 1 (by decide) 0 fun m h => by cases h
  | n + 1 => ok_law_same_s T (n + 2) (by omega) (n + 1) fun m h => by cases h; exact ok_law_same_n T n
def sp_law_cell (K : PySem.W.Frag) : Sp := fun vs H Q _ => ∃ (l : Addr) (ns : List Int) (j : Nat), vs = [V.ref l, V.int (j : Nat)] ∧ SqL K H l (ns.map V.int) ∧ Q (.int (L2.cellOf ns j)) H
def sp_law_draws (K : PySem.W.Frag) : Sp := fun vs H Q _ => ∃ c : Int, vs = [.int c, .int 12] ∧ ∀ H' t (ds : List Int), Same H H' → H' t = some (.lst (ds.map V.int)) → H t = none → ds.length = 12 → Q (.ref t) H'
def sp_law_stream (K : PySem.W.Frag) : Sp := fun vs H Q _ => ∃ (l : Addr) (ns : List Int) (first count : Nat), vs = [.ref l, .int (first : Int), .int (count : Int)] ∧ SqL K H l (ns.map V.int) ∧ 1 ≤ count ∧ count ≤ 100 ∧
  ∀ H' st d p, Same H H' → Stm H' st d p → H p = none → Q (.ref st) H'
def sp_law_next (K : PySem.W.Frag) : Sp := fun vs H Q _ => ∃ (st d p : Addr) (m : Int), vs = [.ref st, .int m] ∧ Stm H st d p ∧ 0 < m ∧ ∀ H' (v : Int), Stp p H H' → 0 ≤ v → v < m → Q (.int v) H'
theorem ok_law_cell (T : Txt K mg A) : FnOk P w K mg base CX0 1 A.f_law_cell A.d_law_cell ["script", "k"] (sp_law_cell K) := by
  refine T.F_law_cell.ok sc_law_cell (fun vs H Q E h => ?_) (fun cdv A' outer s H vs Q E hr h => ?_)
  · obtain ⟨a, ns, j, rfl, _⟩ := h
    rfl
  · obtain ⟨a, ns, j, rfl, hS, q⟩ := h
    refine ⟨_, (pss_cons (ps_if (pt_cmpR op_lt (pv 1) (pe_callB call_len_seq (by rfl) T.b_len (by decide +kernel) (pa_cons (pv 0) pa_nil)) (nomark _)) 
      (pss_one (ps_ret (pe_callTy call_intI (by rfl) T.b_int (by decide +kernel) (pa_cons (pe_ix ix_list (pv 0) (pv 1) (fun _ _ => rfl)) pa_nil)))) pss_nil) 
    (pss_one (ps_ret pe_int))), ?_⟩
    walk_at "wp"
    refine ⟨_, .inl hS, ?_⟩
    by_cases hj : j < ns.length
    · rw [if_pos (by rw [List.length_map]; exact decide_eq_true (by omega))]
      refine ⟨_, hS, _, atI_cell hj, _, rfl, q⟩
    · rw [if_neg (by rw [List.length_map, decide_eq_true_eq]; omega)]
      rw [cell_out hj] at q
      exact q
theorem ok_law_draws (T : Txt K mg A) : FnOk P w K mg base CX0 1 A.f_law_draws A.d_law_draws ["cell", "count"] (sp_law_draws K) := by
  refine T.F_law_draws.ok sc_law_draws (fun vs H Q E h => ?_) (fun cdv A' outer s H vs Q E hr h => ?_)
  · obtain ⟨c, rfl, _⟩ := h
    rfl
  · obtain ⟨c, rfl, q⟩ := h
    refine ⟨_, (pss_cons (ps_set (i := 2) sc_law_draws.nd rfl (Or.inl rfl) (pe_callB call_abs (by rfl) T.b_abs (by decide +kernel) (pa_cons (pe_callTy call_intI (by rfl) T.b_int (by decide +kernel) (pa_cons (pv 0) pa_nil)) pa_nil))) 
    (pss_cons (ps_set (i := 3) sc_law_draws.nd rfl (Or.inl rfl) (pe_cmpR op_ge (pv 2) (pe_op op_pow pe_int pe_int) (nomark _))) 
    (pss_cons (ps_set (i := 4) sc_law_draws.nd rfl (Or.inl rfl) (pe_lst pa_nil)) 
    (pss_cons (ps_for PassesOwn.never rfl (pi_range1 (by rfl) T.b_range (pa_cons pe_int pa_nil)) (pg_name (i := 5) sc_law_draws.nd rfl (Or.inl rfl)) 
      (pss_one (ps_if (PW.pt (pw_and (pt_cmpR op_lt (pv 5) (pv 1) (nomark _)) (pw_and1 (pt_val (pv 3))))) 
        (pss_cons (ps_expr (pe_bm PySem.F.plainAttrs_list PySem.F.slot_list_append PySem.F.type_list_append mt_append (pv 4) (pa_cons (pe_op op_mod (pv 2) pe_int) pa_nil))) 
        (pss_one (ps_set (i := 2) sc_law_draws.nd rfl (Or.inl rfl) (pe_op op_fdiv (pv 2) pe_int)))) 
        (pss_one (ps_if (pt_cmpR op_lt (pv 5) (pv 1) (nomark _)) 
          (pss_cons (ps_set (i := 6) sc_law_draws.nd rfl (Or.inl rfl) (pe_op op_mod (pe_op op_add (pe_op op_add (pe_op op_mul (pe_callTy call_intI (by rfl) T.b_int (by decide +kernel) (pa_cons (pv 2) pa_nil)) pe_int) (pe_op op_mul (pv 5) pe_int)) pe_int) pe_int)) 
          (pss_cons (ps_set (i := 6) sc_law_draws.nd rfl (Or.inl rfl) (pe_op op_mod (pe_op op_add (pe_op op_add (pe_op op_mul (pe_callTy call_intI (by rfl) T.b_int (by decide +kernel) (pa_cons (pv 6) pa_nil)) (pe_callTy call_intI (by rfl) T.b_int (by decide +kernel) (pa_cons (pv 6) pa_nil))) (pe_op op_mul (pv 5) pe_int)) pe_int) pe_int)) 
          (pss_one (ps_expr (pe_bm PySem.F.plainAttrs_list PySem.F.slot_list_append PySem.F.type_list_append mt_append (pv 4) (pa_cons (pe_op op_mod (pe_callTy call_intI (by rfl) T.b_int (by decide +kernel) (pa_cons (pv 6) pa_nil)) pe_int) pa_nil)))))) pss_nil))))) 
    (pss_one (ps_ret (pv 4))))))), ?_⟩
    walk_at "wp"
    refine ⟨⟨by decide, by decide, by decide⟩, Nat.zero_le _, fun p np => ⟨by decide, by decide, ?_⟩⟩
    obtain ⟨Pv, hPv⟩ : ∃ Pv : Nat → St → Hp → Prop, ∀ i σ H', Pv i σ H' ↔ ∃ (num : Int) (g : Bool) (ds : List Int) (v5 v6 : Option V), σ = [some (V.int c), some (V.int 12), some (V.int num), some (V.bl g), some (V.ref p), v5, v6] ∧ (g = false → 0 ≤ num ∧ num < 1000000000000000000) ∧
      Same H H' ∧ H' p = some (.lst (ds.map V.int)) ∧ ds.length = min i 12 := ⟨_, fun _ _ _ => Iff.rfl⟩
    have e18 : (10 : Int) ^ Int.toNat 18 = 1000000000000000000 := by decide
    refine loop_it (walk_range0 (n := 60)) Pv ((hPv _ _ _).mpr ⟨_, _, [], none, none, rfl, fun hg => ?_, same_upd np, upd_same, rfl⟩) (fun _ _ _ _ _ => trivial) ?_ ?_
    · rw [e18, decide_eq_false_iff_not] at hg
      constructor
      · split <;> omega
      · omega
    · intro i x σ H1 H2 hi pw y
      obtain ⟨num, g, ds, v5, v6, rfl, hg, s1, e1, hl⟩ := (hPv _ _ _).mp pw
      obtain ⟨rfl, rfl⟩ := y
      walk_at "wp"
      have sz : ∀ z : V, (ds.map V.int).length < sizeLine := fun _ => small1000 (by rw [List.length_map]; omega)
      have ty : tyV K "list" (V.ref p) H2 := .inl ⟨rfl, _, SqL.of e1⟩
      have fin : ∀ (num' : Int) (v v5' v6' : Option V) (z : Int), i < 12 → (g = false → 0 ≤ num' ∧ num' < 1000000000000000000) → Pv (i + 1) [some (V.int c), some (V.int 12), some (V.int num'), some (V.bl g), some (V.ref p), v5', v6'] (upd H2 p (.lst (ds.map V.int ++ [V.int z]))) := fun num' v v5' v6' z h12 hg' =>
        (hPv _ _ _).mpr ⟨num', g, ds ++ [z], v5', v6', rfl, hg', fun b o e => by rw [upd_ne (ne_of_none e np)]; exact s1 _ _ e, by rw [upd_same, List.map_append]; rfl, by rw [List.length_append, List.length_singleton]; omega⟩
      by_cases h12 : i < 12
      · rw [show decide (((i : Nat) : Int) < 12) = true from decide_eq_true (by omega)]
        cases g with
        | true =>
          walk_at "wp"
          exact ⟨ty, by decide, _, e1, sz .non, ⟨by decide, by decide⟩, fin _ none _ _ _ h12 (fun z => by cases z)⟩
        | false =>
          walk_at "wp"
          have hn := hg rfl
          refine ⟨.inr ⟨by decide, by decide⟩, .inr ⟨by decide, by decide⟩, by decide, ?_⟩
          have m0 := Int.emod_nonneg (num * 48271 + (i : Int) * 69621 + 11) (show (2147483647 : Int) ≠ 0 by decide)
          have m1 := Int.emod_lt_of_pos (num * 48271 + (i : Int) * 69621 + 11) (show (0 : Int) < 2147483647 by decide)
          refine ⟨.inl ⟨by omega, by omega⟩, .inr ⟨by decide, by decide⟩, by decide, ty, by decide, _, e1, sz .non, ?_⟩
          exact fin _ none _ _ _ h12 (fun _ => hn)
      · rw [show decide (((i : Nat) : Int) < 12) = false from decide_eq_false (by omega)]
        walk_at "wp"
        exact (hPv _ _ _).mpr ⟨num, g, ds, _, v6, rfl, hg, s1, e1, by omega⟩
    · intro σ H1 pw
      obtain ⟨num, g, ds, v5, v6, rfl, hg, s1, e1, hl⟩ := (hPv _ _ _).mp pw
      walk_at "wp"
      exact q _ _ ds s1 e1 np (by omega)
theorem ok_law_stream (T : Txt K mg A) : FnOk P w K mg base CX0 2 A.f_law_stream A.d_law_stream ["script", "first", "count"] (sp_law_stream K) := by
  have G_law_draws := ok_law_draws (P := P) (w := w) (base := base) T
  have G_law_cell := ok_law_cell (P := P) (w := w) (base := base) T
  refine T.F_law_stream.ok sc_law_stream (fun vs H Q E h => ?_) (fun cdv A' outer s H vs Q E hr h => ?_)
  · obtain ⟨l, ns, first, count, rfl, _⟩ := h
    rfl
  · obtain ⟨l, ns, first, count, rfl, hL, h1, h2, q⟩ := h
    refine ⟨_, (pss_cons (ps_set (i := 3) sc_law_stream.nd rfl (Or.inl rfl) (pe_lst pa_nil)) 
    (pss_cons (ps_for PassesOwn.never rfl (pi_range1 (by rfl) T.b_range (pa_cons (pv 2) pa_nil)) (pg_name (i := 4) sc_law_stream.nd rfl (Or.inl rfl)) 
      (pss_one (ps_expr (pe_bm PySem.F.plainAttrs_list PySem.F.slot_list_extend PySem.F.type_list_extend mt_extend (pv 3) (pa_cons (pe_call G_law_draws hr (by rfl) T.g_law_draws T.F_law_draws.kp T.B_law_draws .nil pass0 (pa_cons (pe_call G_law_cell hr (by rfl) T.g_law_cell T.F_law_cell.kp T.B_law_cell .nil pass0 (pa_cons (pv 0) (pa_cons (pe_op op_add (pv 1) (pv 4)) pa_nil))) (pa_cons pe_int pa_nil))) pa_nil))))) 
    (pss_one (ps_ret (pe_lst (pa_cons (pv 3) (pa_cons (pe_lst (pa_cons pe_int pa_nil)) pa_nil))))))), ?_⟩
    walk_at "wp"
    refine ⟨Nat.zero_le _, fun p np => ⟨by omega, by omega, ?_⟩⟩
    obtain ⟨Pv, hPv⟩ : ∃ Pv : Nat → St → Hp → Prop, ∀ i σ H', Pv i σ H' ↔ ∃ (ds : List Int) (v4 : Option V), σ = [some (V.ref l), some (V.int (first : Int)), some (V.int (count : Int)), some (V.ref p), v4] ∧
      Same H H' ∧ H' p = some (.lst (ds.map V.int)) ∧ ds.length = 12 * i := ⟨_, fun _ _ _ => Iff.rfl⟩
    refine loop_it (walk_range0 (n := count)) Pv ((hPv _ _ _).mpr ⟨[], none, rfl, same_upd np, upd_same, rfl⟩) (fun _ _ _ _ _ => trivial) ?_ ?_
    · intro i x σ H1 H2 hi pw y
      obtain ⟨ds, v4, rfl, s1, e1, hl⟩ := (hPv _ _ _).mp pw
      obtain ⟨rfl, rfl⟩ := y
      walk_at "wp"
      refine ⟨.inl ⟨rfl, _, SqL.of e1⟩, l, ns, first + i, by rw [Int.natCast_add], s1.seq hL, ?_⟩
      refine ⟨_, rfl, fun H3 t ds2 s3 e3 nt h12 => ?_⟩
      have npt : t ≠ p := fun z => by
        rw [z, e1] at nt
        cases nt
      refine ⟨_, rfl, _, s3 _ _ e1, _, e3, ?_, (hPv _ _ _).mpr ⟨ds ++ ds2, _, rfl, fun b o e => ?_, ?_, ?_⟩⟩
      · rw [List.length_map, List.length_map]
        exact Nat.le_of_lt (Nat.lt_of_le_of_lt (show ds.length + ds2.length ≤ 2000 by omega) (by decide))
      · rw [upd_ne (ne_of_none e np)]
        exact s3 _ _ (s1 _ _ e)
      · rw [upd_same, List.map_append]
      · rw [List.length_append]
        omega
    · intro σ H1 pw
      obtain ⟨ds, v4, rfl, s1, e1, hl⟩ := (hPv _ _ _).mp pw
      walk_at "wp"
      refine ⟨by decide, fun p2 n2 => ⟨by decide, fun st n3 => ?_⟩⟩
      have s4 := (same_upd (o := .lst [.int 0]) n2).trans (same_upd (o := .lst [.ref p, .ref p2]) n3)
      have np2 : p ≠ p2 := ne_of_none e1 n2
      have nst : st ≠ p2 := fun z => by
        rw [z, upd_same] at n3
        cases n3
      refine q _ st p p2 (s1.trans s4) ⟨upd_same, ⟨ds, s4 _ _ e1, fun z => ?_⟩, ⟨0, ?_⟩, nst, np2⟩ (s1.free n2)
      · rw [z] at hl
        simp only [List.length_nil] at hl
        omega
      · rw [upd_ne nst.symm, upd_same]
theorem ok_law_next (T : Txt K mg A) : FnOk P w K mg base CX0 1 A.f_law_next A.d_law_next ["stream", "many"] (sp_law_next K) := by
  refine T.F_law_next.ok sc_law_next (fun vs H Q E h => ?_) (fun cdv A' outer s H vs Q E hr h => ?_)
  · obtain ⟨st, d, p, m, rfl, _⟩ := h
    rfl
  · obtain ⟨st, d, p, m, rfl, hM, hm, q⟩ := h
    refine ⟨_, (pss_cons (ps_set (i := 2) sc_law_next.nd rfl (Or.inl rfl) (pe_ix ix_list (pv 0) pe_int (fun _ _ => rfl))) 
    (pss_cons (ps_set (i := 3) sc_law_next.nd rfl (Or.inl rfl) (pe_ix ix_list (pv 0) pe_int (fun _ _ => rfl))) 
    (pss_cons (ps_set (i := 4) sc_law_next.nd rfl (Or.inl rfl) (pe_op op_mod (pe_callTy call_intI (by rfl) T.b_int (by decide +kernel) (pa_cons (pe_ix ix_list (pv 2) (pe_op op_mod (pe_callTy call_intI (by rfl) T.b_int (by decide +kernel) (pa_cons (pe_ix ix_list (pv 3) pe_int (fun _ _ => rfl)) pa_nil)) (pe_callB call_len_seq (by rfl) T.b_len (by decide +kernel) (pa_cons (pv 2) pa_nil))) (fun _ _ => rfl)) pa_nil)) (pv 1))) 
    (pss_cons (ps_asg (pe_op op_add (pe_ix ix_list (pv 3) pe_int (fun _ _ => rfl)) pe_int) (pg_sub (pv 3) pe_int set_list)) 
    (pss_one (ps_ret (pv 4))))))), ?_⟩
    walk_at "wp"
    obtain ⟨ds, ed, hd⟩ := hM.dg
    obtain ⟨i, ep⟩ := hM.pl
    have sS := SqL.of (K := K) hM.at_
    refine ⟨_, sS, _, rfl, _, sS, _, rfl, ?_⟩
    walk_at "wp"
    have hl : 0 < ds.length := by
      cases ds with
      | nil => exact absurd rfl hd
      | cons x r => exact Nat.succ_pos _
    have hl2 : (0 : Int) < ((ds.map V.int).length : Int) := by rw [List.length_map]; omega
    obtain ⟨x, ex, hx⟩ := atI_in (xs := ds.map V.int) (i := i % ((ds.map V.int).length : Int)) (Int.emod_nonneg _ (by omega)) (Int.emod_lt_of_pos _ hl2)
    obtain ⟨z, _, rfl⟩ := List.mem_map.mp hx
    refine ⟨_, SqL.of ep, _, rfl, _, rfl, _, .inl (SqL.of ed), hl2, _, SqL.of ed, _, ex, _, rfl, hm, _, SqL.of ep, _, rfl, _, rfl, _, ep, _, rfl, ?_⟩
    exact q _ _ ⟨fun b o n e => by rw [upd_ne n]; exact e, _, upd_same⟩ (Int.emod_nonneg _ (by omega)) (Int.emod_lt_of_pos _ hm)
def isLetter (c : Nat) : Bool := (97 ≤ c && c ≤ 122) || (65 ≤ c && c ≤ 90)
def isDigit (c : Nat) : Bool := 48 ≤ c && c ≤ 57
def isWordC (c : Nat) : Bool := isLetter c || isDigit c || c == 95
/-- a word: a letter, then letters, digits, underscores; at most m characters -/
def IsWord (m : Nat) (z : Str) : Prop := ∃ c r, tl z = c :: r ∧ isLetter c = true ∧ (∀ x ∈ r, isWordC x = true) ∧ r.length < m
def sp_law_word (K : PySem.W.Frag) : Sp := fun vs H Q _ => ∃ (st d p : Addr) (j : Int), vs = [.ref st, .int j] ∧ Stm H st d p ∧ 0 ≤ j ∧ j < 10 ∧ ∀ H' z, Stp p H H' → IsWord 6 z → Q (.str z) H'
theorem ok_law_word (T : Txt K mg A) : FnOk P w K mg base CX0 2 A.f_law_word A.d_law_word ["stream", "index"] (sp_law_word K) := by
  have G_law_next := ok_law_next (P := P) (w := w) (base := base) T
  refine T.F_law_word.ok sc_law_word (fun vs H Q E h => ?_) (fun cdv A' outer s H vs Q E hr h => ?_)
  · obtain ⟨st, d, p, j, rfl, _⟩ := h
    rfl
  · obtain ⟨st, d, p, j, rfl, hM, j0, j1, q⟩ := h
    refine ⟨_, (pss_cons (ps_set (i := 2) sc_law_word.nd rfl (Or.inr rfl) pe_str) 
    (pss_cons (ps_set (i := 3) sc_law_word.nd rfl (Or.inl rfl) (pe_call G_law_next hr (by rfl) T.g_law_next T.F_law_next.kp T.B_law_next .nil pass0 (pa_cons (pv 0) (pa_cons pe_int pa_nil)))) 
    (pss_cons (ps_set (i := 4) sc_law_word.nd rfl (Or.inl rfl) (pe_join pe_str (pe_lc (own := [("k", 5)]) (by rfl) sc_law_word.nd (pi_range1 (by rfl) T.b_range (pa_cons (pv 3) pa_nil)) (blkOk_by (own := [("k", 5)]) (N := ["stream", "index", "letters", "size", "text", "k", "place", "word"]) (sc := defScope s_law_word) (by decide +kernel)) (fun _ _ _ _ _ => (pg_name (i := 5) sc_law_word.nd rfl (Or.inl rfl) (Or.inr rfl))) (fun _ _ _ _ _ => pts_nil) (fun _ _ _ _ _ => (pe_ix ix_str (pv 2) (pe_call G_law_next hr (by rfl) T.g_law_next T.F_law_next.kp T.B_law_next .nil pass0 (pa_cons (pv 0) (pa_cons pe_int pa_nil))) (fun _ _ => rfl)))))) 
    (pss_cons (ps_set (i := 6) sc_law_word.nd rfl (Or.inl rfl) (pe_call G_law_next hr (by rfl) T.g_law_next T.F_law_next.kp T.B_law_next .nil pass0 (pa_cons (pv 0) (pa_cons (pe_op op_add (pv 3) pe_int) pa_nil)))) 
    (pss_cons (ps_set (i := 7) sc_law_word.nd rfl (Or.inl rfl) (pe_op op_add_str (pe_op op_add_str (pe_slice sl_str (pv 4) po_none (po_some (pv 6))) (pe_ix ix_str pe_str (pv 1) (fun _ _ => rfl))) (pe_slice sl_str (pv 4) (po_some (pv 6)) po_none))) 
    (pss_cons (ps_if (pt_cmpR op_in_sign (pe_ix ix_str (pv 7) pe_int (fun _ _ => rfl)) (pe_slice sl_str (pv 2) (po_some pe_int) po_none) (by rfl)) 
      (pss_one (ps_set (i := 7) sc_law_word.nd rfl (Or.inl rfl) (pe_op op_add_str pe_str (pv 7)))) pss_nil) 
    (pss_one (ps_ret (pv 7))))))))), ?_⟩
    walk_at "wp"
    have hLet : ∀ c ∈ tl "abcdefghijklmnopqrstuvwxyz_0123456789", isWordC c = true := by decide +kernel
    have hLow : ∀ c ∈ (tl "abcdefghijklmnopqrstuvwxyz_0123456789").take 26, isLetter c = true := by decide +kernel
    have hUp : ∀ c ∈ tl "ABCDEFGHIJ", isLetter c = true := by decide +kernel
    have lLet : (tl "abcdefghijklmnopqrstuvwxyz_0123456789").length = 37 := by decide +kernel
    have lUp : (tl "ABCDEFGHIJ").length = 10 := by decide +kernel
    have isW : ∀ c, isLetter c = true → isWordC c = true := fun c h => by unfold isWordC; rw [h]; rfl
    have big : ∀ n : Nat, n ≤ 1000 → n ≤ sizeLine := fun n h => Nat.le_of_lt (small1000 h)
    refine ⟨st, d, p, 5, rfl, hM, by decide, fun H1 v s1 v0 v1 => ?_⟩
    refine ⟨⟨_, rfl⟩, v, rfl, by omega, by omega, fun D hD => ?_⟩
    obtain ⟨i1, ep1⟩ := s1.pl
    have nDp : D ≠ p := (ne_of_none ep1 hD).symm
    have hD0 : H D = none := s1.free hD nDp
    obtain ⟨n, rfl⟩ : ∃ n : Nat, v = (n : Int) := ⟨v.toNat, by omega⟩
    obtain ⟨Pv, hPv⟩ : ∃ Pv : Nat → Hp → Prop, ∀ i H', Pv i H' ↔ Stp p H H' ∧ ∃ zs : List Str, H' D = some (.lst (zs.map V.str)) ∧ zs.length = i ∧ ∀ z ∈ zs, ∃ c, c ∈ tl "abcdefghijklmnopqrstuvwxyz_0123456789" ∧ z = ⟨#[c]⟩ := ⟨_, fun _ _ => Iff.rfl⟩
    refine loopc_it (walk_range0 (n := n)) Pv ((hPv _ _).mpr ⟨s1.same (same_upd hD), [], upd_same, rfl, fun _ h => by cases h⟩) (fun _ _ _ _ => trivial) ?_ ?_
    · intro i x H2 H3 hi pw y
      obtain ⟨s2, zs, ez, hl, hz⟩ := (hPv _ _).mp pw
      obtain ⟨rfl, rfl⟩ := y
      walk_at "wp"
      refine ⟨st, d, p, 37, rfl, hM.step s2, by decide, fun H4 u s4 u0 u1 => ?_⟩
      obtain ⟨c, ec, hc⟩ := atI_in (xs := tl "abcdefghijklmnopqrstuvwxyz_0123456789") u0 (by rw [lLet]; omega)
      refine ⟨u, rfl, by rw [len_tl, lLet]; decide, c, ec, zs.map V.str, s4.keep _ _ nDp ez, small1000 (by rw [List.length_map]; omega), (hPv _ _).mpr ⟨(s2.trans s4).upd hD0 nDp, zs ++ [⟨#[c]⟩], ?_, ?_, ?_⟩⟩
      · rw [upd_same, List.map_append]
        rfl
      · rw [List.length_append, hl]
        rfl
      · intro z hz2
        rcases List.mem_append.mp hz2 with h | h
        · exact hz _ h
        · exact ⟨c, hc, List.mem_singleton.mp h⟩
    · intro H2 pw
      obtain ⟨s2, zs, ez, hl, hz⟩ := (hPv _ _).mp pw
      have hT : ∀ c ∈ tl (flat zs), c ∈ tl "abcdefghijklmnopqrstuvwxyz_0123456789" := fun c hc => by
        rw [tl_flat] at hc
        obtain ⟨l, hl1, hl2⟩ := List.mem_flatten.mp hc
        obtain ⟨z, hz1, rfl⟩ := List.mem_map.mp hl1
        obtain ⟨c', h1, rfl⟩ := hz z hz1
        rw [tl1, List.mem_singleton] at hl2
        rw [hl2]
        exact h1
      have lT : (tl (flat zs)).length = n := by
        rw [tl_flat, List.length_flatten, List.map_map, ← hl]
        have e : zs.map (List.length ∘ tl) = zs.map fun _ => 1 := List.map_congr_left fun z hz1 => by
          obtain ⟨c', h1, rfl⟩ := hz z hz1
          rfl
        rw [e]
        exact sum_ones zs
      refine ⟨zs, .inl (SqL.of ez), ?_, n, rfl, ?_⟩
      · rw [flat_len, len_tl, lT, show (Str.ofString "").length = 0 by decide +kernel]
        omega
      refine ⟨st, d, p, (n : Int) + 1, rfl, hM.step s2, by omega, fun H3 u s3 u0 u1 => ?_⟩
      obtain ⟨k, rfl⟩ : ∃ k : Nat, u = (k : Int) := ⟨u.toNat, by omega⟩
      rw [join_flat _ (by decide +kernel)]
      obtain ⟨c, ec, hc⟩ := atI_in (xs := tl "ABCDEFGHIJ") j0 (by rw [lUp]; omega)
      walk_at "wp"
      have lf : (flat zs).length = n := by rw [len_tl, lT]
      have lw : ∀ z : Str, z.length ≤ 20 → z.length ≤ sizeLine := fun z h => big _ (by omega)
      have l1 : (cutS (flat zs) none (some (k : Int))).length ≤ 4 := by
        rw [len_tl, cut_take, List.length_take, lT]
        omega
      have l2 : (cutS (flat zs) (some (k : Int)) none).length ≤ 4 := by
        rw [len_tl, cut_drop, List.length_drop, lT]
        omega
      have l3 : ((⟨#[c]⟩ : Str)).length = 1 := rfl
      have eW : tl (cutS (flat zs) none (some (k : Int)) ++ ⟨#[c]⟩ ++ cutS (flat zs) (some (k : Int)) none) = (tl (flat zs)).take k ++ c :: (tl (flat zs)).drop k := by
        rw [tl_append, tl_append, cut_take, cut_drop, tl1, List.append_assoc]
        rfl
      have lW : ((tl (flat zs)).take k ++ c :: (tl (flat zs)).drop k).length = n + 1 := by
        rw [List.length_append, List.length_cons, List.length_take, List.length_drop, lT]
        omega
      have aW : ∀ x ∈ (tl (flat zs)).take k ++ c :: (tl (flat zs)).drop k, x = c ∨ x ∈ tl "abcdefghijklmnopqrstuvwxyz_0123456789" := fun x hx => by
        rcases List.mem_append.mp hx with h | h
        · exact .inr (hT _ (List.mem_of_mem_take h))
        · rcases List.mem_cons.mp h with h | h
          · exact .inl h
          · exact .inr (hT _ (List.mem_of_mem_drop h))
      obtain ⟨W, hW⟩ : ∃ W : Str, cutS (flat zs) none (some (k : Int)) ++ ⟨#[c]⟩ ++ cutS (flat zs) (some (k : Int)) none = W := ⟨_, rfl⟩
      rw [hW] at eW
      generalize (tl (flat zs)).take k ++ c :: (tl (flat zs)).drop k = L at eW lW aW
      obtain ⟨x, r, rfl⟩ : ∃ x r, L = x :: r := by
        cases L with
        | nil => simp at lW
        | cons x r => exact ⟨x, r, rfl⟩
      have lenW : W.length = n + 1 := by rw [len_tl, eW, lW]
      have lr : r.length = n := by simpa using lW
      have wc : ∀ y ∈ x :: r, isWordC y = true := fun y hy => by
        rcases aW y hy with h | h
        · rw [h]
          exact isW _ (hUp _ hc)
        · exact hLet _ h
      have s03 := s2.trans s3
      refine ⟨big _ (by omega), by decide +kernel, c, ec, big _ (by omega), big _ (by omega), ?_, ?_, x, ?_, by decide +kernel, ?_⟩
      · rw [len_app]
        exact big _ (by omega)
      · rw [hW]
        exact big _ (by omega)
      · rw [hW]
        show atI (tl W) 0 = some x
        rw [eW]
        exact atI_nat (xs := x :: r) (j := 0) rfl
      · have e26 : tl (cutS (Str.ofString "abcdefghijklmnopqrstuvwxyz_0123456789") (some 26) none) = (tl "abcdefghijklmnopqrstuvwxyz_0123456789").drop 26 := cut_drop _ 26
        rw [hW]
        split
        · have lv : (Str.ofString "v").length = 1 := by decide +kernel
          refine ⟨big _ (by omega), q _ _ s03 ⟨118, x :: r, ?_, by decide, wc, by rw [List.length_cons]; omega⟩⟩
          rw [tl_append, eW]
          rfl
        · rename_i hx
          refine q _ _ s03 ⟨x, r, eW, ?_, fun y hy => wc y (List.mem_cons_of_mem _ hy), by omega⟩
          rcases aW x List.mem_cons_self with h | h
          · rw [h]
            exact hUp _ hc
          · rw [← List.take_append_drop 26 (tl (Str.ofString "abcdefghijklmnopqrstuvwxyz_0123456789"))] at h
            rcases List.mem_append.mp h with h | h
            · exact hLow _ h
            · exact absurd (decide_eq_true (by rw [← e26] at h; exact h)) hx
def LE : List Str := [";", "{", "}", "||"]
def NB : List Str := ["[", "("]
def NA : List Str := [",", ";", ":", "[", "]", "(", ")"]
abbrev SP : Str := "  "
abbrev BL : Str := " "
abbrev NL : Str := "\n"
abbrev CB : Str := "}"
abbrev OB : Str := "{"
/-- a token: not empty, not long -/
def Tok2 (z : Str) : Prop := 1 ≤ z.length ∧ z.length ≤ 20
def forBody : Stmt → List Stmt
  | .For _ _ b _ _ => b
  | _ => []
structure Pr where
  t : Addr
  k : Str
  v : V
  z : Str
inductive TokOf : V → Str → Prop where
  | str (z : Str) (h : PyData.strOk z = true) : TokOf (.str z) z
  | int (n : Nat) (h : n < 10000000000) : TokOf (.int (n : Int)) (Str.ofString (toString ((n : Nat) : Int)))
structure PrOk (K : PySem.W.Frag) (H : Hp) (r : Pr) : Prop where
  at_ : SqT K H r.t [.str r.k, r.v]
  tok : TokOf r.v r.z
  sz : Tok2 r.z
  ks : PyData.strOk r.k = true
theorem PrOk.same {K : PySem.W.Frag} {H H' : Hp} {r : Pr} (x : PrOk K H r) (e : Same H H') : PrOk K H' r := ⟨sameT e x.at_, x.tok, x.sz, x.ks⟩
abbrev EM : Str := ""
structure WSt where
  ps : List Str
  depth : Nat
  last : Str
def wd1 (v : Str) (d : Nat) : Nat := if v = CB then d - 1 else d
def wps (s : WSt) (v : Str) : List Str := if s.last = EM then s.ps ++ [rep SP (wd1 v s.depth)] else if s.last ∉ NB ∧ v ∉ NA then s.ps ++ [BL] else s.ps
def wfin (ps : List Str) (d : Nat) (v : Str) : WSt := if v ∈ LE then ⟨ps ++ [v] ++ [NL], if v = OB then d + 1 else d, EM⟩ else ⟨ps ++ [v], if v = OB then d + 1 else d, v⟩
def wstep (s : WSt) (v : Str) : WSt := wfin (wps s v) (wd1 v s.depth) v
def wrun (ts : List Str) : WSt := ts.foldl wstep ⟨[], 0, EM⟩
theorem wrun_snoc (ts : List Str) (v : Str) : wrun (ts ++ [v]) = wstep (wrun ts) v := by
  unfold wrun
  rw [List.foldl_append]
  rfl
def wOut (s : WSt) : List Str := if s.last = EM then s.ps else s.ps ++ [NL]
def sp_write_signs (K : PySem.W.Frag) : Sp := fun vs H Q _ => ∃ (l : Addr) (rs : List Pr), vs = [.ref l] ∧ SqL K H l (rs.map fun r => V.ref r.t) ∧ (∀ r ∈ rs, PrOk K H r) ∧ rs.length ≤ 60 ∧ ∀ H', Same H H' → Q (.str (flat (wOut (wrun (rs.map Pr.z))))) H'

structure WOk (i : Nat) (S : WSt) : Prop where
  dep : S.depth ≤ i
  cnt : S.ps.length ≤ 3 * i
  len : (flat S.ps).length ≤ 200 * i
theorem WOk.step {i : Nat} {S : WSt} {v : Str} (x : WOk i S) (hi : i < 60) (hv : Tok2 v) : WOk (i + 1) (wstep S v) := by
  have h1 := x.dep
  have h2 := x.cnt
  have h3 := x.len
  have h4 := hv.2
  have d1 : wd1 v S.depth ≤ S.depth := by unfold wd1; split <;> omega
  have eSP : SP.length = 2 := by decide +kernel
  have eBL : BL.length = 1 := by decide +kernel
  have eNL : NL.length = 1 := by decide +kernel
  have p1 : (wps S v).length ≤ S.ps.length + 1 ∧ (flat (wps S v)).length ≤ (flat S.ps).length + 120 := by
    unfold wps
    split
    · rw [flat_snoc, len_app, rep_len, eSP, List.length_append, List.length_singleton]
      omega
    · split
      · rw [flat_snoc, len_app, eBL, List.length_append, List.length_singleton]
        omega
      · omega
  have d2 : (if v = OB then wd1 v S.depth + 1 else wd1 v S.depth) ≤ i + 1 := by split <;> omega
  unfold wstep wfin
  split
  · refine ⟨d2, ?_, ?_⟩
    · show (wps S v ++ [v] ++ [NL]).length ≤ _
      simp only [List.length_append, List.length_singleton]
      omega
    · show (flat (wps S v ++ [v] ++ [NL])).length ≤ _
      rw [flat_snoc, flat_snoc, len_app, len_app, eNL]
      omega
  · refine ⟨d2, ?_, ?_⟩
    · show (wps S v ++ [v]).length ≤ _
      simp only [List.length_append, List.length_singleton]
      omega
    · show (flat (wps S v ++ [v])).length ≤ _
      rw [flat_snoc, len_app]
      omega
theorem WOk.run : ∀ (ts : List Str), ts.length ≤ 60 → (∀ z ∈ ts, Tok2 z) → ∀ i, i ≤ ts.length → WOk i (wrun (ts.take i))
  | ts, hl, ht, 0, _ => ⟨Nat.le_refl _, Nat.le_refl _, Nat.le_refl _⟩
  | ts, hl, ht, i + 1, hi => by
    rw [List.take_succ_eq_append_getElem hi, wrun_snoc]
    exact (WOk.run ts hl ht i (by omega)).step (by omega) (ht _ (List.getElem_mem hi))
theorem ok_write_signs (T : Txt K mg A) : FnOk P w K mg base CX0 1 A.f_write_signs A.d_write_signs ["signs"] (sp_write_signs K) := by
  refine T.F_write_signs.ok sc_write_signs (fun vs H Q E h => ?_) (fun cdv A' outer s H vs Q E hr h => ?_)
  · obtain ⟨l, rs, rfl, _⟩ := h
    rfl
  · obtain ⟨l, rs, rfl, hL, hR, hl, q⟩ := h
    have big : ∀ n : Nat, n ≤ 200000 → n ≤ sizeLine := fun n h => Nat.le_trans h (by decide)
    have ⟨R2, hR2, kR2⟩ : ∃ R, PSs (cxOf CX0 P w K mg base ["signs", "pieces", "depth", "last", "sign", "value"] "write_signs" (defScope s_write_signs) A.f_write_signs cdv A' outer s H E).nox ((forBody ((defBody s_write_signs).getD 3 (.Pass ⟨0, 0, 0, 0⟩))).drop 3) R ∧
        ∀ (D : Ends) (H1 : Hp) (pl : Addr) (ps : List Str) (d : Nat) (last v : Str) (sg : Option V), H1 pl = some (.lst (ps.map V.str)) → ps.length ≤ 400 →
          D.nx [some (V.ref l), some (V.ref pl), some (V.int ((wfin ps d v).depth : Int)), some (V.str (wfin ps d v).last), sg, some (V.str v)] (upd H1 pl (.lst ((wfin ps d v).ps.map V.str))) →
          R D [some (V.ref l), some (V.ref pl), some (V.int (d : Int)), some (V.str last), sg, some (V.str v)] H1 := by
      refine ⟨_, (pss_cons (ps_expr (pe_bm PySem.F.plainAttrs_list PySem.F.slot_list_append PySem.F.type_list_append mt_append (pv 1) (pa_cons (pv 5) pa_nil))) 
    (pss_cons (ps_set (i := 3) sc_write_signs.nd rfl (Or.inl rfl) (pv 5)) 
    (pss_cons (ps_if (pt_cmpR op_eq (pv 5) pe_str (nomark _)) 
      (pss_one (ps_aug (i := 2) sc_write_signs.nd rfl (Or.inl rfl) pe_int ip_add)) pss_nil) 
    (pss_one (ps_if (pt_cmpR op_in_seq (pv 5) (pe_glob (v := .ref A.t_LINE_ENDS) rfl T.g_LINE_ENDS rfl) (by rfl)) 
      (pss_cons (ps_expr (pe_bm PySem.F.plainAttrs_list PySem.F.slot_list_append PySem.F.type_list_append mt_append (pv 1) (pa_cons pe_str pa_nil))) 
      (pss_one (ps_set (i := 3) sc_write_signs.nd rfl (Or.inl rfl) pe_str))) pss_nil))))), fun D H1 pl ps d last v sg e hps k => ?_⟩
      walk_at "wp"
      have el : (ps.map V.str ++ [V.str v]) = (ps ++ [v]).map V.str := by rw [List.map_append]; rfl
      refine ⟨.inl ⟨rfl, _, SqL.of e⟩, _, e, small1000 (by rw [List.length_map]; omega), ?_⟩
      rw [el]
      have el2 : ((ps ++ [v]).map V.str ++ [V.str NL]) = (ps ++ [v] ++ [NL]).map V.str := by rw [List.map_append (l₂ := [NL])]; rfl
      have lz : ((ps ++ [v]).map V.str).length < sizeLine := small1000 (by simp; omega)
      have us : (upd H1 pl (.lst ((ps ++ [v]).map V.str))) pl = some (.lst ((ps ++ [v]).map V.str)) := upd_same
      split <;> rename_i h1 <;> simp only [decide_eq_true_eq] at h1 <;> refine rin LE (.inr (T.q_LINE_ENDS _)) ⟨_, rfl, ?_⟩ <;> (
        by_cases hLE : v ∈ LE
        · rw [if_pos (decide_eq_true hLE)]
          rw [show wfin ps d v = ⟨ps ++ [v] ++ [NL], if v = OB then d + 1 else d, EM⟩ from if_pos hLE] at k
          refine ⟨.inl ⟨rfl, _, SqL.of us⟩, _, us, lz, ?_⟩
          rw [el2, upd_upd]
          first | rw [if_pos h1] at k | rw [if_neg h1] at k
          exact k
        · rw [if_neg (by rw [decide_eq_true_eq]; exact hLE)]
          rw [show wfin ps d v = ⟨ps ++ [v], if v = OB then d + 1 else d, v⟩ from if_neg hLE] at k
          first | rw [if_pos h1] at k | rw [if_neg h1] at k
          exact k)
    have ⟨R1, hR1, kR1⟩ : ∃ R, PSs (cxOf CX0 P w K mg base ["signs", "pieces", "depth", "last", "sign", "value"] "write_signs" (defScope s_write_signs) A.f_write_signs cdv A' outer s H E).nox ((forBody ((defBody s_write_signs).getD 3 (.Pass ⟨0, 0, 0, 0⟩))).drop 2) R ∧
        ∀ (D : Ends) (H1 : Hp) (pl : Addr) (S : WSt) (v : Str) (sg : Option V), H1 pl = some (.lst (S.ps.map V.str)) → S.ps.length ≤ 300 → S.depth ≤ 60 →
          D.nx [some (V.ref l), some (V.ref pl), some (V.int ((wstep S v).depth : Int)), some (V.str (wstep S v).last), sg, some (V.str v)] (upd H1 pl (.lst ((wstep S v).ps.map V.str))) →
          R D [some (V.ref l), some (V.ref pl), some (V.int (wd1 v S.depth : Int)), some (V.str S.last), sg, some (V.str v)] H1 := by
      refine ⟨_, (pss_cons (ps_if (pt_cmpR op_eq (pv 3) pe_str (nomark _)) 
      (pss_one (ps_expr (pe_bm PySem.F.plainAttrs_list PySem.F.slot_list_append PySem.F.type_list_append mt_append (pv 1) (pa_cons (pe_op op_repS pe_str (pv 2)) pa_nil)))) 
      (pss_one (ps_if (PW.pt (pw_and (pt_cmpR op_notIn_seq (pv 3) (pe_glob (v := .ref A.t_NO_SPACE_BEHIND) rfl T.g_NO_SPACE_BEHIND rfl) (by rfl)) (pw_and1 (pt_cmpR op_notIn_seq (pv 5) (pe_glob (v := .ref A.t_NO_SPACE_AHEAD) rfl T.g_NO_SPACE_AHEAD rfl) (by rfl))))) 
        (pss_one (ps_expr (pe_bm PySem.F.plainAttrs_list PySem.F.slot_list_append PySem.F.type_list_append mt_append (pv 1) (pa_cons pe_str pa_nil)))) pss_nil))) hR2), fun D H1 pl S v sg e hps hd k => ?_⟩
      walk_at "wp"
      have lz : (S.ps.map V.str).length < sizeLine := small1000 (by rw [List.length_map]; omega)
      have hd1 : wd1 v S.depth ≤ 60 := by unfold wd1; split <;> omega
      have finA : ∀ x : Str, wps S v = S.ps ++ [x] → R2 D [some (V.ref l), some (V.ref pl), some (V.int (wd1 v S.depth : Int)), some (V.str S.last), sg, some (V.str v)] (upd H1 pl (.lst (S.ps.map V.str ++ [V.str x]))) := fun x ex => by
        refine kR2 D _ pl (S.ps ++ [x]) _ _ _ _ (by rw [upd_same, List.map_append]; rfl) (by simp; omega) ?_
        rw [upd_upd, ← ex]
        exact k
      have finB : wps S v = S.ps → R2 D [some (V.ref l), some (V.ref pl), some (V.int (wd1 v S.depth : Int)), some (V.str S.last), sg, some (V.str v)] H1 := fun ex => by
        refine kR2 D _ pl S.ps _ _ _ _ e (by omega) ?_
        rw [← ex]
        exact k
      have ty : tyV K "list" (V.ref pl) H1 := .inl ⟨rfl, _, SqL.of e⟩
      by_cases h1 : S.last = EM
      · rw [if_pos (decide_eq_true h1)]
        refine ⟨ty, _, rfl, by decide +kernel, by omega, _, e, lz, finA _ ?_⟩
        unfold wps
        rw [if_pos h1]
      · rw [if_neg (by rw [decide_eq_true_eq]; exact h1)]
        refine rnin NB (.inr (T.q_NO_SPACE_BEHIND _)) ⟨_, rfl, ?_⟩
        by_cases h2 : S.last ∈ NB
        · rw [if_neg (by simp [h2])]
          refine finB ?_
          unfold wps
          rw [if_neg h1, if_neg (fun h => h.1 h2)]
        · rw [if_pos (by simp [h2])]
          refine rnin NA (.inr (T.q_NO_SPACE_AHEAD _)) ⟨_, rfl, ?_⟩
          by_cases h3 : v ∈ NA
          · rw [if_neg (by simp [h3])]
            refine finB ?_
            unfold wps
            rw [if_neg h1, if_neg (fun h => h.2 h3)]
          · rw [if_pos (by simp [h3])]
            refine ⟨ty, _, e, lz, finA _ ?_⟩
            unfold wps
            rw [if_neg h1, if_pos ⟨h2, h3⟩]
    have ⟨R0, hR0, kR0⟩ : ∃ R, PSs (cxOf CX0 P w K mg base ["signs", "pieces", "depth", "last", "sign", "value"] "write_signs" (defScope s_write_signs) A.f_write_signs cdv A' outer s H E).nox (forBody ((defBody s_write_signs).getD 3 (.Pass ⟨0, 0, 0, 0⟩))) R ∧
        ∀ (D : Ends) (H1 : Hp) (pl : Addr) (S : WSt) (r : Pr) (o5 : Option V), PrOk K H1 r → H1 pl = some (.lst (S.ps.map V.str)) → S.ps.length ≤ 300 → S.depth ≤ 60 →
          D.nx [some (V.ref l), some (V.ref pl), some (V.int ((wstep S r.z).depth : Int)), some (V.str (wstep S r.z).last), some (V.ref r.t), some (V.str r.z)] (upd H1 pl (.lst ((wstep S r.z).ps.map V.str))) →
          R D [some (V.ref l), some (V.ref pl), some (V.int (S.depth : Int)), some (V.str S.last), some (V.ref r.t), o5] H1 := by
      refine ⟨_, (pss_cons (ps_set (i := 5) sc_write_signs.nd rfl (Or.inl rfl) (pe_callTy call_str_any (by rfl) T.b_str (by decide +kernel) (pa_cons (pe_ix ix_tup (pv 4) pe_int (fun _ _ => rfl)) pa_nil))) 
    (pss_cons (ps_if (pt_cmpR op_eq (pv 5) pe_str (nomark _)) 
      (pss_one (ps_set (i := 2) sc_write_signs.nd rfl (Or.inl rfl) (pe_callB (call_max2 rfl) (by rfl) T.b_max (by decide +kernel) (pa_cons pe_int (pa_cons (pe_op op_sub (pv 2) pe_int) pa_nil))))) pss_nil) hR1)), fun D H1 pl S r o5 ok e hps hd k => ?_⟩
      walk_at "wp"
      refine ⟨_, ok.at_, _, rfl, ?_⟩
      have key : (if decide (r.z = Str.ofString "}") = true then R1 D [some (V.ref l), some (V.ref pl), some (V.int (if (S.depth : Int) - 1 > 0 then (S.depth : Int) - 1 else 0)), some (V.str S.last), some (V.ref r.t), some (V.str r.z)] H1
          else R1 D [some (V.ref l), some (V.ref pl), some (V.int (S.depth : Int)), some (V.str S.last), some (V.ref r.t), some (V.str r.z)] H1) := by
        have k1 := kR1 D H1 pl S r.z (some (V.ref r.t)) e hps hd k
        by_cases h1 : r.z = CB
        · rw [if_pos (decide_eq_true h1)]
          rw [show (wd1 r.z S.depth : Int) = (if (S.depth : Int) - 1 > 0 then (S.depth : Int) - 1 else 0) by unfold wd1; rw [if_pos h1]; split <;> omega] at k1
          exact k1
        · rw [if_neg (by rw [decide_eq_true_eq]; exact h1)]
          rw [show wd1 r.z S.depth = S.depth by unfold wd1; rw [if_neg h1]] at k1
          exact k1
      have tk := ok.tok
      clear k
      generalize r.z = zz at tk key
      generalize r.v = vv at tk ⊢
      cases tk with
      | str _ _ => exact .inr ⟨_, rfl, key⟩
      | int n h => exact .inl ⟨_, rfl, Nat.lt_of_le_of_lt (log2_le_of (a := 34) (by rw [Int.natAbs_natCast]; exact Nat.lt_trans h (by decide))) (by decide), key⟩
    refine ⟨_, (pss_cons (ps_set (i := 1) sc_write_signs.nd rfl (Or.inl rfl) (pe_lst pa_nil)) (pss_cons (ps_set (i := 2) sc_write_signs.nd rfl (Or.inl rfl) pe_int) (pss_cons (ps_set (i := 3) sc_write_signs.nd rfl (Or.inl rfl) pe_str)
      (pss_cons (ps_for PassesOwn.never rfl (pi_list (pv 0)) (pg_name (i := 4) sc_write_signs.nd rfl (Or.inl rfl)) hR0) (pss_cons (ps_if (pt_cmpR op_ne (pv 3) pe_str (nomark _)) 
      (pss_one (ps_expr (pe_bm PySem.F.plainAttrs_list PySem.F.slot_list_append PySem.F.type_list_append mt_append (pv 1) (pa_cons pe_str pa_nil)))) pss_nil) 
    (pss_one (ps_ret (pe_join pe_str (pv 1))))))))), ?_⟩
    walk_at "wp"
    refine ⟨Nat.zero_le _, fun pl np => ⟨⟨_, (same_upd np).seq hL⟩, ?_⟩⟩
    have hzl : (rs.map Pr.z).length ≤ 60 := by rw [List.length_map]; exact hl
    have hzt : ∀ z ∈ rs.map Pr.z, Tok2 z := fun z hz => by
      obtain ⟨r, hr, rfl⟩ := List.mem_map.mp hz
      exact (hR r hr).sz
    obtain ⟨Pv, hPv⟩ : ∃ Pv : Nat → St → Hp → Prop, ∀ i σ H', Pv i σ H' ↔ ∃ (v4 v5 : Option V), Same H H' ∧ H' pl = some (.lst ((wrun ((rs.map Pr.z).take i)).ps.map V.str)) ∧
      σ = [some (V.ref l), some (V.ref pl), some (V.int ((wrun ((rs.map Pr.z).take i)).depth : Int)), some (V.str (wrun ((rs.map Pr.z).take i)).last), v4, v5] := ⟨_, fun _ _ _ => Iff.rfl⟩
    refine loop_it (walk_list (xs := rs.map fun r => V.ref r.t)) Pv ((hPv _ _ _).mpr ⟨none, none, same_upd np, upd_same, rfl⟩) (fun i σ H' _ pw => ?_) ?_ ?_
    · obtain ⟨_, _, s1, _⟩ := (hPv _ _ _).mp pw
      exact s1.seq hL
    · intro i x σ H1 H2 hi pw y
      obtain ⟨v4, v5, s1, ep, rfl⟩ := (hPv _ _ _).mp pw
      obtain ⟨rfl, ex⟩ := yat_at y
      rw [List.length_map] at hi
      rw [List.getElem?_map, List.getElem?_eq_getElem hi] at ex
      cases ex
      have ok := WOk.run _ hzl hzt i (by rw [List.length_map]; omega)
      have hi2 : i < (rs.map Pr.z).length := by rw [List.length_map]; exact hi
      have st := wrun_snoc ((rs.map Pr.z).take i) (rs.map Pr.z)[i]
      rw [← List.take_succ_eq_append_getElem hi2, List.getElem_map] at st
      have b1 := ok.dep
      have b2 := ok.cnt
      walk_at "wp"
      refine kR0 _ _ _ _ _ _ ((hR _ (List.getElem_mem hi)).same s1) ep (by omega) (by omega) ?_
      refine (hPv _ _ _).mpr ⟨some (V.ref rs[i].t), some (V.str rs[i].z), same_upd2 s1 np, ?_, ?_⟩
      · rw [st, upd_same]
      · rw [st]
    · intro σ H1 pw
      obtain ⟨v4, v5, s1, ep, rfl⟩ := (hPv _ _ _).mp pw
      rw [List.length_map] at ep
      rw [List.length_map]
      have ok := WOk.run _ hzl hzt rs.length (by rw [List.length_map]; exact Nat.le_refl _)
      have et : (rs.map Pr.z).take rs.length = rs.map Pr.z := List.take_of_length_le (by rw [List.length_map]; exact Nat.le_refl _)
      rw [et] at ep ok ⊢
      generalize wrun (rs.map Pr.z) = S at *
      have b2 := ok.cnt
      have b3 := ok.len
      have eNL : NL.length = 1 := by decide +kernel
      have e0 : (Str.ofString "").length = 0 := by decide +kernel
      walk_at "wp"
      by_cases h1 : S.last = EM
      · rw [show wOut S = S.ps from if_pos h1] at q
        rw [if_neg (by simp [h1])]
        refine ⟨⟨_, rfl⟩, S.ps, .inl (SqL.of ep), ?_, ?_⟩
        · rw [flat_len, e0]
          omega
        · rw [join_flat _ (by decide +kernel)]
          exact q _ s1
      · rw [show wOut S = S.ps ++ [NL] from if_neg h1] at q
        rw [if_pos (by simp [h1])]
        refine ⟨.inl ⟨rfl, _, SqL.of ep⟩, _, ep, small1000 (by rw [List.length_map]; omega), ⟨_, rfl⟩, S.ps ++ [NL], .inl (SqL.of (by rw [upd_same, List.map_append]; rfl)), ?_, ?_⟩
        · rw [flat_len, e0, flat_snoc, len_app, eNL]
          omega
        · rw [join_flat _ (by decide +kernel)]
          exact q _ (same_upd2 s1 np)
def SIMP : List Str := [",", ";", ":", "[", "]", "(", ")", "{", "}", "+", "-", "*"]
/-- a piece: its kind and its text -/
inductive Piece : Str → Str → Prop where
  | word (y : Str) : IsWord 20 y → Piece "word" y
  | number (y : Str) : (∀ c ∈ tl y, isDigit c = true) → 1 ≤ y.length → y.length ≤ 9 → Piece "number" y
  | symbol (y : Str) : y ∈ SYMS → Piece "symbol" y
def touch : Option (Str × Str) → Str → Str → Bool
  | none, _, _ => true
  | some (lk, ly), k, y => if ly ∈ SIMP then true else if k = "symbol" then (!decide (lk = "symbol") || decide (y ∈ SIMP)) else (decide (lk = "symbol") || (decide (lk = "number") && decide (k = "word")))
def plc : Nat × Nat → List Nat → Nat × Nat
  | q, [] => q
  | q, c :: r => plc (if c = 10 then (q.1 + 1, 1) else (q.1, q.2 + 1)) r
theorem plc_app : ∀ (a b : List Nat) (q : Nat × Nat), plc q (a ++ b) = plc (plc q a) b
  | [], _, _ => rfl
  | c :: a, b, q => plc_app a b _
theorem plc_one (q : Nat × Nat) (c : Nat) : plc q [c] = if c = 10 then (q.1 + 1, 1) else (q.1, q.2 + 1) := rfl
theorem isL_mem {c : Nat} (h : isLetter c = true) : c ∈ tl LETT := by
  have hf : ∀ c < 123, isLetter c = true → c ∈ tl LETT := by decide +kernel
  refine hf c ?_ h
  unfold isLetter at h
  simp at h
  omega
theorem isD_mem {c : Nat} (h : isDigit c = true) : c ∈ tl DIGI := by
  have hf : ∀ c < 123, isDigit c = true → c ∈ tl DIGI := by decide +kernel
  refine hf c ?_ h
  unfold isDigit at h
  simp at h
  omega
theorem isW_mem {c : Nat} (h : isWordC c = true) : c ∈ tl WORC := by
  have hf : ∀ c < 123, isWordC c = true → c ∈ tl WORC := by decide +kernel
  refine hf c ?_ h
  unfold isWordC isLetter isDigit at h
  simp at h
  omega
theorem isL_nd {c : Nat} (h : isLetter c = true) : c ∉ tl DIGI := by
  have hf : ∀ x ∈ tl DIGI, isLetter x = false := by decide +kernel
  intro hc
  rw [hf c hc] at h
  cases h
theorem isD_nl {c : Nat} (h : isDigit c = true) : c ∉ tl LETT := by
  have hf : ∀ x ∈ tl LETT, isDigit x = false := by decide +kernel
  intro hc
  rw [hf c hc] at h
  cases h
theorem runL_app {chs : List Nat} : ∀ (a b : List Nat), (∀ c ∈ a, c ∈ chs) → runL chs (a ++ b) = a.length + runL chs b
  | [], b, _ => by rw [List.nil_append]; simp
  | c :: a, b, h => by
    rw [List.cons_append, runL_cons, if_pos (h c List.mem_cons_self), runL_app a b fun x hx => h x (List.mem_cons_of_mem _ hx), List.length_cons]
    omega
theorem runL_zero {chs : List Nat} {b : List Nat} (h : ∀ c r, b = c :: r → c ∉ chs) : runL chs b = 0 := by
  cases b with
  | nil => rfl
  | cons c r => rw [runL_cons, if_neg (h c r rfl)]
theorem symAt_cons (l : List Nat) (s : Str) (r : List Str) : symAt l (s :: r) = if l.take (tl s).length = tl s then some s else symAt l r := by
  rw [← len_tl]
  rfl
theorem symAt_hit {l : List Nat} {s : Str} {r : List Str} (h : l.take (tl s).length = tl s) : symAt l (s :: r) = some s := by rw [symAt_cons, if_pos h]
theorem symAt_miss {l : List Nat} {s : Str} {r : List Str} (h : l.take (tl s).length ≠ tl s) : symAt l (s :: r) = symAt l r := by rw [symAt_cons, if_neg h]
theorem sym_tls : SYMS.map tl = [[60, 61], [62, 61], [61, 61], [124, 124], [44], [59], [58], [91], [93], [40], [41], [123], [125], [61], [43], [45], [42], [60], [62]] := by decide +kernel
/-- the place among the symbols of the one that stands first -/
def symIx (l : List Nat) : List (List Nat) → Option Nat
  | [] => none
  | s :: r => if l.take s.length = s then some 0 else (symIx l r).map (· + 1)
theorem symAt_ix (l : List Nat) : ∀ ss : List Str, symAt l ss = (symIx l (ss.map tl)).bind fun i => ss[i]?
  | [] => rfl
  | s :: r => by
    rw [symAt_cons, symAt_ix l r, List.map_cons, symIx]
    split
    · rfl
    · cases symIx l (r.map tl) <;> rfl
theorem sym_of {y : Str} (hy : y ∈ SYMS) {rest : List Nat} (h : ∀ c r, rest = c :: r → y ∈ SIMP ∨ c ≠ 61) : symAt (tl y ++ rest) SYMS = some y := by
  rw [symAt_ix, sym_tls]
  have h2 : ∀ c r, rest = c :: r → tl y ∈ [[60], [61], [62]] → c ≠ 61 := fun c r e hm => by
    rcases h c r e with h | h
    · exact absurd hm ((show ∀ z ∈ SIMP, tl z ∉ [[60], [61], [62]] by decide +kernel) y h)
    · exact h
  obtain ⟨i, hi, e⟩ := List.getElem_of_mem hy
  have et : (SYMS.map tl)[i]? = some (tl y) := by
    rw [List.getElem?_map, List.getElem?_eq_getElem hi, e]
    rfl
  rw [sym_tls] at et
  have key : symIx (tl y ++ rest) [[60, 61], [62, 61], [61, 61], [124, 124], [44], [59], [58], [91], [93], [40], [41], [123], [125], [61], [43], [45], [42], [60], [62]] = some i := by
    have hi19 : i < 19 := hi
    generalize tl y = t at et h2
    cases rest with
    | nil =>
      clear h2 h
      rcases i with _|_|_|_|_|_|_|_|_|_|_|_|_|_|_|_|_|_|_|i
      all_goals first | (exfalso; omega) | (cases et; decide)
    | cons c r =>
      have h3 := h2 c r rfl
      rcases i with _|_|_|_|_|_|_|_|_|_|_|_|_|_|_|_|_|_|_|i
      all_goals first | (exfalso; omega) | (cases et; simp [symIx] at h3 ⊢ <;> first | exact h3 | omega)
  rw [key]
  show SYMS[i]? = some y
  rw [List.getElem?_eq_getElem hi, e]
/-- what may stand behind a piece with no blank between -/
def NextOk (k y : Str) (rest : List Nat) : Prop := ∀ c r, rest = c :: r → (k = "word" → c ∉ tl WORC) ∧ (k = "number" → c ∉ tl DIGI) ∧ (k = "symbol" → y ∈ SIMP ∨ c ≠ 61)
theorem kw_kn : (("word" : Str) = "number") = False := by decide +kernel
theorem kw_ks : (("word" : Str) = "symbol") = False := by decide +kernel
theorem kn_kw : (("number" : Str) = "word") = False := by decide +kernel
theorem kn_ks : (("number" : Str) = "symbol") = False := by decide +kernel
theorem ks_kw : (("symbol" : Str) = "word") = False := by decide +kernel
theorem ks_kn : (("symbol" : Str) = "number") = False := by decide +kernel
theorem wordC_facts {c : Nat} (h : isWordC c = true) : c ≠ 61 ∧ c ≠ 10 ∧ c ≠ 32 ∧ c ≠ 9 := by
  refine ⟨?_, ?_, ?_, ?_⟩ <;> intro e <;> rw [e] at h <;> revert h <;> decide
theorem letter_wordC {c : Nat} (h : isLetter c = true) : isWordC c = true := by unfold isWordC; rw [h]; rfl
theorem digit_wordC {c : Nat} (h : isDigit c = true) : isWordC c = true := by unfold isWordC; rw [h]; simp
theorem sym_head : ∀ s ∈ SYMS, ∃ c r, tl s = c :: r ∧ c ∉ tl WORC ∧ c ∉ tl LETT ∧ c ∉ tl DIGI ∧ c ≠ 10 ∧ c ≠ 32 ∧ c ≠ 9 ∧ (s ∈ SIMP → c ≠ 61) ∧ s.length ≤ 2 := fun s hs => by
  have h : ∀ s ∈ SYMS, (match tl s with
    | [] => False
    | c :: r => c ∉ tl WORC ∧ c ∉ tl LETT ∧ c ∉ tl DIGI ∧ c ≠ 10 ∧ c ≠ 32 ∧ c ≠ 9 ∧ (s ∈ SIMP → c ≠ 61) ∧ s.length ≤ 2) := by
    intro s hs
    have h2 : ∀ s ∈ SYMS, (match tl s with
      | [] => false
      | c :: r => decide (c ∉ tl WORC ∧ c ∉ tl LETT ∧ c ∉ tl DIGI ∧ c ≠ 10 ∧ c ≠ 32 ∧ c ≠ 9 ∧ (s ∈ SIMP → c ≠ 61) ∧ s.length ≤ 2)) = true := by decide +kernel
    have h3 := h2 s hs
    split at h3
    · cases h3
    · exact of_decide_eq_true h3
  have h := h s hs
  split at h
  · exact h.elim
  · rename_i c r e
    exact ⟨c, r, e, h⟩
/-- how a piece begins -/
theorem piece_head {k y : Str} (h : Piece k y) : (∃ c r, tl y = c :: r ∧ c ≠ 10 ∧ c ≠ 32 ∧ c ≠ 9 ∧ (k = "symbol" → c ∉ tl WORC ∧ c ∉ tl DIGI ∧ (y ∈ SIMP → c ≠ 61)) ∧ (k ≠ "symbol" → c ≠ 61) ∧ (k = "word" → c ∉ tl DIGI) ∧ y ∉ SIMP) ∨ ∃ c r, tl y = c :: r ∧ c ≠ 10 ∧ c ≠ 32 ∧ c ≠ 9 ∧ k = "symbol" ∧ c ∉ tl WORC ∧ c ∉ tl DIGI ∧ (y ∈ SIMP → c ≠ 61) := by
  have ns : ∀ c r, tl y = c :: r → isWordC c = true → y ∉ SIMP := fun c r e hc hs => by
    obtain ⟨c', r', e', h1, _⟩ := sym_head y ((show ∀ z ∈ SIMP, z ∈ SYMS by decide +kernel) y hs)
    rw [e] at e'
    cases e'
    exact h1 (isW_mem hc)
  cases h with
  | word _ hw =>
    obtain ⟨c, r, e, h1, h2, h3⟩ := hw
    have f := wordC_facts (letter_wordC h1)
    exact .inl ⟨c, r, e, f.2.1, f.2.2.1, f.2.2.2, fun z => absurd z (by rw [kw_ks]; exact id), fun _ => f.1, fun _ => isL_nd h1, ns c r e (letter_wordC h1)⟩
  | number _ hd h1 h9 =>
    obtain ⟨c, r, e⟩ : ∃ c r, tl y = c :: r := by
      cases e : tl y with
      | nil => rw [len_tl, e] at h1; cases h1
      | cons c r => exact ⟨c, r, rfl⟩
    have hc := hd c (by rw [e]; exact List.mem_cons_self)
    have f := wordC_facts (digit_wordC hc)
    exact .inl ⟨c, r, e, f.2.1, f.2.2.1, f.2.2.2, fun z => absurd z (by rw [kn_ks]; exact id), fun _ => f.1, fun z => absurd z (by rw [kn_kw]; exact id), ns c r e (digit_wordC hc)⟩
  | symbol _ hs =>
    obtain ⟨c, r, e, h1, h2, h3, h4, h5, h6, h7, _⟩ := sym_head y hs
    exact .inr ⟨c, r, e, h4, h5, h6, rfl, h1, h3, h7⟩
theorem lex_piece {k y : Str} {v : V} {rest : List Nat} {l c : Nat} {s : List Sg} (hp : Piece k y) (hv : ValOf k y v) (hn : NextOk k y rest) (h : Lex rest l (c + y.length) s) : Lex (tl y ++ rest) l c (⟨k, v, l, c⟩ :: s) := by
  have hdr : (tl y ++ rest).drop y.length = rest := by rw [len_tl]; simp
  have htk : (tl y ++ rest).take y.length = tl y := by rw [len_tl]; simp
  have mk : ∀ (x : Nat) (r : List Nat), tl y = x :: r → x ≠ 10 → x ≠ 32 → x ≠ 9 → SignOf (x :: r ++ rest) k y.length → Lex (tl y ++ rest) l c (⟨k, v, l, c⟩ :: s) := fun x r e h1 h2 h3 hS => by
    rw [e] at hdr htk ⊢
    rw [List.cons_append] at hdr htk hS ⊢
    have ly : y.length = r.length + 1 := by rw [len_tl, e, List.length_cons]
    refine Lex.sg y.length s k y v h1 h2 h3 hS (by omega) (by rw [List.length_append]; omega) (by rw [htk, e]) hv ?_
    rw [hdr]
    exact h
  cases hp with
  | word _ hw =>
    obtain ⟨x, r, e, h1, h2, h3⟩ := hw
    have f := wordC_facts (letter_wordC h1)
    have ly : y.length = r.length + 1 := by rw [len_tl, e, List.length_cons]
    have ha : ∀ z ∈ x :: r, z ∈ tl WORC := fun z hz => by
      rcases List.mem_cons.mp hz with h | h
      · rw [h]; exact isW_mem (letter_wordC h1)
      · exact isW_mem (h2 z h)
    have er : runL (tl WORC) (x :: r ++ rest) = y.length := by
      rw [runL_app _ _ ha, runL_zero (fun c r' e' => (hn c r' e').1 rfl), List.length_cons, ly]
    refine mk x r e f.2.1 f.2.2.1 f.2.2.2 ?_
    rw [← er]
    exact SignOf.word _ x (r ++ rest) rfl (isL_mem h1) (by rw [er]; omega)
  | number _ hd h1 h9 =>
    obtain ⟨x, r, e⟩ : ∃ c r, tl y = c :: r := by
      cases e : tl y with
      | nil => rw [len_tl, e] at h1; cases h1
      | cons c r => exact ⟨c, r, rfl⟩
    rw [e] at hd
    have hc := hd x List.mem_cons_self
    have f := wordC_facts (digit_wordC hc)
    have ly : y.length = r.length + 1 := by rw [len_tl, e, List.length_cons]
    have er : runL (tl DIGI) (x :: r ++ rest) = y.length := by
      rw [runL_app _ _ (fun z hz => isD_mem (hd z hz)), runL_zero (fun c r' e' => (hn c r' e').2.1 rfl), List.length_cons, ly]
    refine mk x r e f.2.1 f.2.2.1 f.2.2.2 ?_
    rw [← er]
    exact SignOf.number _ x (r ++ rest) rfl (isD_nl hc) (isD_mem hc) (by rw [er]; omega)
  | symbol _ hs =>
    obtain ⟨x, r, e, h1, h2, h3, h4, h5, h6, h7, _⟩ := sym_head y hs
    refine mk x r e h4 h5 h6 (SignOf.symbol _ x (r ++ rest) y rfl h2 h3 ?_)
    have es := sym_of hs (rest := rest) fun c r' e' => (hn c r' e').2.2 rfl
    rw [e] at es
    exact es
def BlankC (c : Nat) : Prop := c = 32 ∨ c = 9 ∨ c = 10
theorem lex_blanks {rest : List Nat} {s : List Sg} : ∀ (b : List Nat) (q : Nat × Nat), (∀ c ∈ b, BlankC c) → Lex rest (plc q b).1 (plc q b).2 s → Lex (b ++ rest) q.1 q.2 s
  | [], q, _, h => h
  | c :: b, q, hb, h => by
    have ih := fun q' => lex_blanks (rest := rest) (s := s) b q' fun x hx => hb x (List.mem_cons_of_mem _ hx)
    have hc := hb c List.mem_cons_self
    have e : plc q (c :: b) = plc (if c = 10 then (q.1 + 1, 1) else (q.1, q.2 + 1)) b := rfl
    rw [e] at h
    by_cases h10 : c = 10
    · rw [if_pos h10] at h
      subst h10
      exact Lex.nl (ih _ h)
    · rw [if_neg h10] at h
      have h2 : c = 32 ∨ c = 9 := by
        rcases hc with h | h | h
        · exact .inl h
        · exact .inr h
        · exact absurd h h10
      exact Lex.sp h2 (ih _ h)
/-! ### a text of pieces -/
structure Ent where
  b : Str
  k : Str
  y : Str
  v : V
structure EOk (e : Ent) : Prop where
  bl : ∀ c ∈ tl e.b, BlankC c
  bn : e.b.length ≤ 200
  pc : Piece e.k e.y
  va : ValOf e.k e.y e.v
def txt (es : List Ent) : List Nat := (es.map fun e => tl e.b ++ tl e.y).flatten
theorem txt_cons (e : Ent) (r : List Ent) : txt (e :: r) = tl e.b ++ (tl e.y ++ txt r) := by
  unfold txt
  rw [List.map_cons, List.flatten_cons, List.append_assoc]
theorem txt_snoc (es : List Ent) (e : Ent) : txt (es ++ [e]) = txt es ++ tl e.b ++ tl e.y := by
  unfold txt
  rw [List.map_append, List.flatten_append]
  simp
def sgs : Nat × Nat → List Ent → List Sg
  | _, [] => []
  | q, e :: r => ⟨e.k, e.v, (plc q (tl e.b)).1, (plc q (tl e.b)).2⟩ :: sgs (plc (plc q (tl e.b)) (tl e.y)) r
theorem sgs_snoc (e : Ent) : ∀ (es : List Ent) (q : Nat × Nat), sgs q (es ++ [e]) = sgs q es ++ [⟨e.k, e.v, (plc (plc q (txt es)) (tl e.b)).1, (plc (plc q (txt es)) (tl e.b)).2⟩]
  | [], q => rfl
  | f :: r, q => by
    rw [List.cons_append, sgs, sgs_snoc e r, txt_cons, plc_app, plc_app]
    rfl
theorem sgs_len : ∀ (es : List Ent) (q : Nat × Nat), (sgs q es).length = es.length
  | [], _ => rfl
  | e :: r, q => by rw [sgs, List.length_cons, List.length_cons, sgs_len r]
def Adj : Option (Str × Str) → List Ent → Prop
  | _, [] => True
  | la, e :: r => (tl e.b ≠ [] ∨ touch la e.k e.y = true) ∧ Adj (some (e.k, e.y)) r
def lastOf : Option (Str × Str) → List Ent → Option (Str × Str)
  | la, [] => la
  | _, e :: r => lastOf (some (e.k, e.y)) r
theorem lastOf_snoc (e : Ent) : ∀ (es : List Ent) (la : Option (Str × Str)), lastOf la (es ++ [e]) = some (e.k, e.y)
  | [], _ => rfl
  | _ :: r, _ => lastOf_snoc e r _
theorem adj_snoc (e : Ent) : ∀ (es : List Ent) (la : Option (Str × Str)), Adj la es → (tl e.b ≠ [] ∨ touch (lastOf la es) e.k e.y = true) → Adj la (es ++ [e])
  | [], _, _, h => ⟨h, trivial⟩
  | f :: r, _, h1, h => ⟨h1.1, adj_snoc e r _ h1.2 h⟩
theorem blank_next {c : Nat} (h : BlankC c) : c ∉ tl WORC ∧ c ∉ tl DIGI ∧ c ≠ 61 := by
  have f : ∀ c ∈ [32, 9, 10], c ∉ tl WORC ∧ c ∉ tl DIGI ∧ c ≠ 61 := by decide +kernel
  refine f c ?_
  rcases h with h | h | h <;> rw [h] <;> decide
theorem next_blank {k y : Str} {b rest : List Nat} (hb : ∀ c ∈ b, BlankC c) (hne : b ≠ []) : NextOk k y (b ++ rest) := by
  intro c r e
  cases b with
  | nil => exact absurd rfl hne
  | cons x b =>
    rw [List.cons_append] at e
    cases e
    have f := blank_next (hb _ List.mem_cons_self)
    exact ⟨fun _ => f.1, fun _ => f.2.1, fun _ => .inr f.2.2⟩
theorem next_touch {lk ly k y : Str} {rest : List Nat} (h1 : Piece lk ly) (h2 : Piece k y) (h : touch (some (lk, ly)) k y = true) : NextOk lk ly (tl y ++ rest) := by
  intro c r e
  have tq : touch (some (lk, ly)) k y = (if ly ∈ SIMP then true else if k = "symbol" then (!decide (lk = "symbol") || decide (y ∈ SIMP)) else (decide (lk = "symbol") || (decide (lk = "number") && decide (k = "word")))) := rfl
  rw [tq] at h
  have hl := piece_head h1
  obtain ⟨x, r', e', hx⟩ : ∃ x r', tl y = x :: r' ∧ (k = "symbol" ∧ x ∉ tl WORC ∧ x ∉ tl DIGI ∧ (y ∈ SIMP → x ≠ 61) ∨ k ≠ "symbol" ∧ x ≠ 61 ∧ (k = "word" → x ∉ tl DIGI)) := by
    rcases piece_head h2 with ⟨x, r', e', _, _, _, g1, g2, g3, _⟩ | ⟨x, r', e', _, _, _, g0, g1, g2, g3⟩
    · refine ⟨x, r', e', ?_⟩
      by_cases hk : k = "symbol"
      · exact .inl ⟨hk, g1 hk⟩
      · exact .inr ⟨hk, g2 hk, g3⟩
    · exact ⟨x, r', e', .inl ⟨g0, g1, g2, g3⟩⟩
  rw [e', List.cons_append] at e
  cases e
  have hls : ly ∈ SIMP → lk = "symbol" := fun hs => by
    rcases hl with ⟨_, _, _, _, _, _, _, _, _, z⟩ | ⟨_, _, _, _, _, _, z, _⟩
    · exact absurd hs z
    · exact z
  by_cases hs : ly ∈ SIMP
  · have e1 := hls hs
    subst e1
    exact ⟨fun z => absurd z (by rw [ks_kw]; exact id), fun z => absurd z (by rw [ks_kn]; exact id), fun _ => .inl hs⟩
  · rw [if_neg hs] at h
    rcases hx with ⟨rfl, hw, hd, h61⟩ | ⟨hk, h61, hd⟩
    · rw [if_pos rfl] at h
      refine ⟨fun _ => hw, fun _ => hd, fun z => .inr ?_⟩
      rw [z, decide_eq_true rfl] at h
      exact h61 (by simpa using h)
    · rw [if_neg hk] at h
      refine ⟨fun z => ?_, fun z => ?_, fun _ => .inr h61⟩
      · rw [z] at h
        simp only [kw_ks, kw_kn, decide_false, Bool.false_or, Bool.false_and, Bool.false_eq_true] at h
      · rw [z] at h
        simp only [kn_ks, decide_false, decide_true, Bool.false_or, Bool.true_and, decide_eq_true_eq] at h
        exact hd h
theorem next_of {k y : Str} (hp : Piece k y) {tail : List Nat} (ht : ∀ c ∈ tail, BlankC c) : ∀ es : List Ent, (∀ e ∈ es, EOk e) → Adj (some (k, y)) es → NextOk k y (txt es ++ tail)
  | [], _, _ => by
    cases tail with
    | nil => intro c r e; cases e
    | cons x t =>
      have h := next_blank (k := k) (y := y) (rest := []) ht (List.cons_ne_nil _ _)
      rw [List.append_nil] at h
      exact h
  | e :: r, ho, ha => by
    rw [txt_cons, List.append_assoc, List.append_assoc]
    have oe := ho e List.mem_cons_self
    by_cases hb : tl e.b = []
    · rw [hb, List.nil_append]
      exact next_touch hp oe.pc (ha.1.resolve_left fun h => h hb)
    · exact next_blank oe.bl hb
theorem plc_piece {k y : Str} (hp : Piece k y) (q : Nat × Nat) : plc q (tl y) = (q.1, q.2 + y.length) := by
  have h : ∀ c ∈ tl y, c ≠ 10 := by
    cases hp with
    | word _ hw =>
      obtain ⟨x, r, e, h1, h2, h3⟩ := hw
      rw [e]
      intro c hc
      rcases List.mem_cons.mp hc with h | h
      · rw [h]; exact (wordC_facts (letter_wordC h1)).2.1
      · exact (wordC_facts (h2 c h)).2.1
    | number _ hd h1 h9 => exact fun c hc => (wordC_facts (digit_wordC (hd c hc))).2.1
    | symbol _ hs => exact (show ∀ z ∈ SYMS, ∀ c ∈ tl z, c ≠ 10 by decide +kernel) y hs
  rw [len_tl]
  generalize tl y = l at h
  induction l generalizing q with
  | nil => rfl
  | cons c l ih =>
    have e : plc q (c :: l) = plc (if c = 10 then (q.1 + 1, 1) else (q.1, q.2 + 1)) l := rfl
    rw [e, if_neg (h c List.mem_cons_self), ih _ fun x hx => h x (List.mem_cons_of_mem _ hx), List.length_cons]
    simp only [Prod.mk.injEq, true_and]
    omega
theorem lex_main {tail : List Nat} (ht : ∀ c ∈ tail, BlankC c) : ∀ (es : List Ent) (la : Option (Str × Str)) (q : Nat × Nat), (∀ e ∈ es, EOk e) → Adj la es → Lex (txt es ++ tail) q.1 q.2 (sgs q es)
  | [], _, q, _, _ => by
    have h := lex_blanks (rest := []) (s := []) tail q ht (Lex.nil _ _)
    rw [List.append_nil] at h
    exact h
  | e :: r, la, q, ho, ha => by
    have oe := ho e List.mem_cons_self
    have or_ : ∀ x ∈ r, EOk x := fun x hx => ho x (List.mem_cons_of_mem _ hx)
    rw [txt_cons, List.append_assoc, List.append_assoc, sgs]
    refine lex_blanks _ _ oe.bl (lex_piece oe.pc oe.va (next_of oe.pc ht r or_ ha.2) ?_)
    have ih := lex_main ht r _ (plc (plc q (tl e.b)) (tl e.y)) or_ ha.2
    rw [plc_piece oe.pc] at ih ⊢
    exact ih
theorem num_val {y : Str} (hd : ∀ c ∈ tl y, isDigit c = true) (h1 : 1 ≤ y.length) (h9 : y.length ≤ 9) : ∃ m : Nat, PySem.intText? y = some (m : Int) := by
  refine ⟨_, intText_digits (x := y) (fun c hc => ?_) (fun e => ?_) (by omega)⟩
  · have h := hd c hc
    unfold isDigit at h
    simp at h
    exact h
  · have e2 : tl y = [] := e
    rw [len_tl, e2] at h1
    cases h1
theorem piece_len {k y : Str} (h : Piece k y) : 1 ≤ y.length ∧ y.length ≤ 20 := by
  cases h with
  | word _ hw =>
    obtain ⟨x, r, e, h1, h2, h3⟩ := hw
    rw [len_tl, e, List.length_cons]
    omega
  | number _ hd h1 h9 => omega
  | symbol _ hs => exact (show ∀ z ∈ SYMS, 1 ≤ z.length ∧ z.length ≤ 20 by decide +kernel) y hs
theorem txt_len : ∀ es : List Ent, (∀ e ∈ es, EOk e) → (txt es).length ≤ 220 * es.length
  | [], _ => Nat.le_refl _
  | e :: r, ho => by
    have oe := ho e List.mem_cons_self
    have ih := txt_len r fun x hx => ho x (List.mem_cons_of_mem _ hx)
    have h1 := oe.bn
    have h2 := (piece_len oe.pc).2
    rw [len_tl] at h1 h2
    rw [txt_cons, List.length_append, List.length_append, List.length_cons]
    omega
theorem wordC_lt {c : Nat} (h : isWordC c = true) : c ≤ 122 := by
  unfold isWordC isLetter isDigit at h
  simp only [Bool.or_eq_true, Bool.and_eq_true, decide_eq_true_eq, beq_iff_eq] at h
  omega
theorem word_ok {n : Nat} {z : Str} (h : IsWord n z) : PyData.strOk z = true := by
  obtain ⟨c, r, e, h1, h2, _⟩ := h
  unfold PyData.strOk
  rw [← Array.all_toList, List.all_eq_true]
  intro x hx
  have hx' : x ∈ tl z := hx
  rw [e] at hx'
  refine decide_eq_true ?_
  rcases List.mem_cons.mp hx' with hh | hh
  · have h3 := wordC_lt (letter_wordC h1)
    omega
  · have := wordC_lt (h2 x hh)
    omega
def CutPl (q : Nat × Nat) (ys : List (List Nat)) (l : Nat) : Prop := ∃ y, ys.getLast? = some y ∧ q = (l + ys.length - 1, y.length + 1)
theorem spl_plc : ∀ (L acc : List Nat) (l : Nat), 1 ≤ l → CutPl (plc (l, acc.length + 1) L) (spl [10] 0 acc L) l
  | [], acc, l, hl => ⟨acc, rfl, by show (l, acc.length + 1) = (l + 1 - 1, _); rw [Nat.add_sub_cancel]⟩
  | c :: r, acc, l, hl => by
    have e : plc (l, acc.length + 1) (c :: r) = plc (if c = 10 then (l + 1, 1) else (l, acc.length + 1 + 1)) r := rfl
    rw [e]
    by_cases hc : c = 10
    · have hp : pre [10] (c :: r) = true := by rw [hc]; simp [pre]
      rw [spl_hit hp, if_pos hc]
      obtain ⟨y, h1, h2⟩ := spl_plc r [] (l + 1) (by omega)
      rw [show ([10] : List Nat).length - 1 = 0 from rfl]
      have hne : spl [10] 0 [] r ≠ [] := fun z => by rw [z] at h1; cases h1
      refine ⟨y, ?_, ?_⟩
      · rw [List.getLast?_cons_of_ne_nil hne, h1]
      · rw [List.length_cons]
        rw [show ([] : List Nat).length + 1 = 1 from rfl] at h2
        rw [h2]
        have : 0 < (spl [10] 0 [] r).length := List.length_pos_iff.mpr hne
        simp only [Prod.mk.injEq, and_true]
        omega
    · have hp : pre [10] (c :: r) = false := by
        simp [pre, hc]
      rw [spl_miss hp, if_neg hc]
      have ih := spl_plc r (acc ++ [c]) l hl
      rw [List.length_append, List.length_singleton] at ih
      exact ih
theorem plc_col : ∀ (L : List Nat) (q : Nat × Nat), (plc q L).2 ≤ (max q.2 1) + L.length
  | [], q => by show q.2 ≤ _; rw [List.length_nil]; omega
  | c :: r, q => by
    have e : plc q (c :: r) = plc (if c = 10 then (q.1 + 1, 1) else (q.1, q.2 + 1)) r := rfl
    rw [e]
    have ih := plc_col r (if c = 10 then (q.1 + 1, 1) else (q.1, q.2 + 1))
    rw [List.length_cons]
    split at ih
    · rename_i h; rw [if_pos h]; have h1 : max ((q.1 + 1, 1) : Nat × Nat).2 1 = 1 := rfl; omega
    · rename_i h; rw [if_neg h]; have h1 : max ((q.1, q.2 + 1) : Nat × Nat).2 1 = q.2 + 1 := by show max (q.2 + 1) 1 = _; omega
      omega
def sp_end_of (K : PySem.W.Frag) : Sp := fun vs H Q _ => ∃ z : Str, vs = [.str z] ∧ z.length ≤ 1000000 ∧ ∀ H' t, Same H H' → H' t = some (.tup [.int ((plc (1, 1) (tl z)).1 : Int), .int ((plc (1, 1) (tl z)).2 : Int)]) → Q (.ref t) H'
def sp_law_pair (K : PySem.W.Frag) : Sp := fun vs H Q _ => ∃ (st d p : Addr), vs = [.ref st] ∧ Stm H st d p ∧ ∀ H' t k v z, Stp p H H' → H' t = some (.tup [.str k, v]) → Piece k z → ValOf k z v → TokOf v z → PyData.strOk k = true → Q (.ref t) H'
theorem sym_strOk : ∀ z ∈ SYMS, PyData.strOk z = true := by decide +kernel
theorem num_piece {n : Nat} (h : n < 1000000000) : Piece "number" (Str.ofString (toString ((n : Nat) : Int))) ∧ ValOf "number" (Str.ofString (toString ((n : Nat) : Int))) (.int (n : Int)) := by
  have l9 := numL_len (n := n) (k := 9) (by decide) h
  have e : (Str.ofString (toString ((n : Nat) : Int))).length = (numL n).length := by rw [len_tl, tl_num]
  have h3 : 0 < (numL n).length := List.length_pos_iff.mpr (numL_ne n)
  refine ⟨.number _ (fun c hc => ?_) (by omega) (by omega), .num _ _ (int_num (by omega)) (by omega)⟩
  rw [tl_num] at hc
  have hd := numL_digits n c hc
  unfold isDigit
  simp
  exact hd
theorem ok_end_of (T : Txt K mg A) : FnOk P w K mg base CX0 1 A.f_end_of A.d_end_of ["text"] (sp_end_of K) := by
  refine T.F_end_of.ok sc_end_of (fun vs H Q E h => ?_) (fun cdv A' outer s H vs Q E hr h => ?_)
  · obtain ⟨z, rfl, _⟩ := h
    rfl
  · obtain ⟨z, rfl, hz, q⟩ := h
    refine ⟨_, (pss_cons (ps_set (i := 1) sc_end_of.nd rfl (Or.inl rfl) (pe_split (pv 0) pe_str)) 
    (pss_one (ps_ret (pe_tup (pa_cons (pe_callB call_len_seq (by rfl) T.b_len (by decide +kernel) (pa_cons (pv 1) pa_nil)) (pa_cons (pe_op op_add (pe_callB call_len_str (by rfl) T.b_len (by decide +kernel) (pa_cons (pe_ix ix_list (pv 1) (pe_un un_neg pe_int) (fun _ _ => rfl)) pa_nil)) pe_int) pa_nil)))))), ?_⟩
    walk_at "wp"
    have e10 : tl "\n" = [10] := by decide +kernel
    have es := split_spl z (Str.ofString "\n") (by rw [e10]; simp) (kind_ok (by decide +kernel))
    rw [e10] at es
    obtain ⟨y, h1, h2⟩ := spl_plc (tl z) [] 1 (Nat.le_refl _)
    rw [show ([] : List Nat).length + 1 = 1 from rfl] at h2
    rw [← es] at h1 h2
    rw [h2] at q
    have big : ∀ n : Nat, n ≤ 1000002 → n ≤ sizeLine := fun n h => Nat.le_trans h (by decide)
    rcases List.eq_nil_or_concat (Txt.split z (Str.ofString "\n")) with e | ⟨ys, zl, e⟩
    · rw [e] at h1
      cases h1
    · rw [List.concat_eq_append] at e
      have hy : y = tl zl := by
        rw [e, List.map_append, List.map_cons, List.map_nil, List.getLast?_append] at h1
        simpa using h1.symm
      refine ⟨⟨_, rfl⟩, by decide +kernel, big _ (by omega), fun p np => ?_⟩
      have eu : upd H p (.lst ((Txt.split z (Str.ofString "\n")).map V.str)) p = some (.lst ((Txt.split z (Str.ofString "\n")).map V.str)) := upd_same
      have el : (Txt.split z (Str.ofString "\n")).map V.str = ys.map V.str ++ [V.str zl] := by rw [e, List.map_append]; rfl
      have lz : zl.length ≤ z.length := by
        have h3 := plc_col (tl z) (1, 1)
        rw [h2] at h3
        rw [len_tl, len_tl z, ← hy]
        have h4 : y.length + 1 ≤ 1 + (tl z).length := h3
        omega
      refine ⟨p, rfl, _, .inl (SqL.of eu), p, rfl, _, SqL.of eu, V.str zl, ?_, zl, rfl, big _ (by omega), by decide, fun t nt => q _ t ((same_upd np).trans (same_upd nt)) ?_⟩
      · rw [el]
        exact atI_last _ _
      · rw [upd_same, hy, ← len_tl, List.length_map, List.length_map]
        congr 4
        omega
theorem ok_law_pair (T : Txt K mg A) : FnOk P w K mg base CX0 3 A.f_law_pair A.d_law_pair ["stream"] (sp_law_pair K) := by
  have G_law_next := ok_law_next (P := P) (w := w) (base := base) T
  have G_law_word := ok_law_word (P := P) (w := w) (base := base) T
  refine T.F_law_pair.ok sc_law_pair (fun vs H Q E h => ?_) (fun cdv A' outer s H vs Q E hr h => ?_)
  · obtain ⟨st, d, p, rfl, _⟩ := h
    rfl
  · obtain ⟨st, d, p, rfl, hM, q⟩ := h
    refine ⟨_, (pss_cons (ps_set (i := 1) sc_law_pair.nd rfl (Or.inl rfl) (pe_call G_law_next (hr.mono (by decide)) (by rfl) T.g_law_next T.F_law_next.kp T.B_law_next .nil pass0 (pa_cons (pv 0) (pa_cons pe_int pa_nil)))) 
    (pss_cons (ps_if (pt_cmpR op_eq (pv 1) pe_int (nomark _)) 
      (pss_one (ps_ret (pe_tup (pa_cons pe_str (pa_cons (pe_op op_mul (pe_call G_law_next (hr.mono (by decide)) (by rfl) T.g_law_next T.F_law_next.kp T.B_law_next .nil pass0 (pa_cons (pv 0) (pa_cons pe_int pa_nil))) (pe_ix ix_list (pe_lst (pa_cons pe_int (pa_cons pe_int (pa_cons pe_int pa_nil)))) (pe_call G_law_next (hr.mono (by decide)) (by rfl) T.g_law_next T.F_law_next.kp T.B_law_next .nil pass0 (pa_cons (pv 0) (pa_cons pe_int pa_nil))) (fun _ _ => rfl))) pa_nil))))) pss_nil) 
    (pss_cons (ps_if (pt_cmpR op_eq (pv 1) pe_int (nomark _)) 
      (pss_cons (ps_set (i := 2) sc_law_pair.nd rfl (Or.inl rfl) (pe_call G_law_word hr (by rfl) T.g_law_word T.F_law_word.kp T.B_law_word .nil pass0 (pa_cons (pv 0) (pa_cons (pe_call G_law_next (hr.mono (by decide)) (by rfl) T.g_law_next T.F_law_next.kp T.B_law_next .nil pass0 (pa_cons (pv 0) (pa_cons pe_int pa_nil))) pa_nil)))) 
      (pss_cons (ps_if (pt_cmpR op_eq (pe_call G_law_next (hr.mono (by decide)) (by rfl) T.g_law_next T.F_law_next.kp T.B_law_next .nil pass0 (pa_cons (pv 0) (pa_cons pe_int pa_nil))) pe_int (nomark _)) 
        (pss_one (ps_set (i := 2) sc_law_pair.nd rfl (Or.inl rfl) (pe_slice sl_str (pe_op op_add_str (pv 2) pe_str) po_none (po_some pe_int)))) pss_nil) 
      (pss_one (ps_ret (pe_tup (pa_cons pe_str (pa_cons (pv 2) pa_nil))))))) pss_nil) 
    (pss_cons (ps_set (i := 3) sc_law_pair.nd rfl (Or.inl rfl) (pe_lst (pa_cons pe_str (pa_cons pe_str (pa_cons pe_str (pa_cons pe_str (pa_cons pe_str (pa_cons pe_str (pa_cons pe_str (pa_cons pe_str (pa_cons pe_str (pa_cons pe_str (pa_cons pe_str (pa_cons pe_str (pa_cons pe_str (pa_cons pe_str (pa_cons pe_str (pa_cons pe_str (pa_cons pe_str (pa_cons pe_str (pa_cons pe_str pa_nil))))))))))))))))))))) 
    (pss_one (ps_ret (pe_tup (pa_cons pe_str (pa_cons (pe_ix ix_list (pv 3) (pe_op op_mod (pe_call G_law_next (hr.mono (by decide)) (by rfl) T.g_law_next T.F_law_next.kp T.B_law_next .nil pass0 (pa_cons (pv 0) (pa_cons pe_int pa_nil))) pe_int) (fun _ _ => rfl)) pa_nil))))))))), ?_⟩
    walk_at "wp"
    have fin : ∀ (H1 : Hp) (k : Str) (v : V) (z : Str), PyData.strOk k = true → Stp p H H1 → Piece k z → ValOf k z v → TokOf v z → 2 ≤ sizeLine ∧ ∀ t, H1 t = none → Q (.ref t) (upd H1 t (.tup [.str k, v])) := fun H1 k v z hk s1 h1 h2 h3 => ⟨by decide, fun t nt => q _ t k v z (s1.same (same_upd nt)) upd_same h1 h2 h3 hk⟩
    have big : ∀ n : Nat, n ≤ 1000 → n ≤ sizeLine := fun n h => Nat.le_of_lt (small1000 h)
    refine ⟨st, d, p, 4, rfl, hM, by decide, fun H1 v s1 v0 v1 => ?_⟩
    have M1 := hM.step s1
    walk_at "wp"
    by_cases k0 : v = 0
    · rw [if_pos (decide_eq_true k0)]
      refine ⟨st, d, p, 60, rfl, M1, by decide, fun H2 u s2 u0 u1 => ⟨by decide, fun a na => ?_⟩⟩
      have s2a := s2.same (same_upd (o := .lst [V.int 1, V.int 7, V.int 16949152]) na)
      refine ⟨st, d, p, 3, rfl, M1.step s2a, by decide, fun H3 w s3 w0 w1 => ?_⟩
      have nap : a ≠ p := s2.ne na
      obtain ⟨x, ex, hx⟩ := atI_in (xs := [V.int 1, V.int 7, V.int 16949152]) w0 (by simpa using w1)
      obtain ⟨n, rfl⟩ : ∃ n : Nat, u = (n : Int) := ⟨u.toNat, by omega⟩
      have e3 : H3 a = some (.lst [V.int 1, V.int 7, V.int 16949152]) := s3.keep _ _ nap upd_same
      have s13 := (s1.trans s2a).trans s3
      refine ⟨_, w, rfl, SqL.of e3, x, ex, _, rfl, ?_⟩
      have one : ∀ m : Nat, x = V.int (m : Int) → m ≤ 16949152 → ∃ y, x = V.int y ∧ CMul (n : Int) y ∧ 2 ≤ sizeLine ∧ ∀ t, H3 t = none → Q (.ref t) (upd H3 t (.tup [V.str (Str.ofString "number"), V.int ((n : Int) * y)])) := fun m em hm => by
        have hb : n * m < 1000000000 := by
          have h1 : n * m ≤ 59 * 16949152 := Nat.mul_le_mul (by omega) hm
          omega
        refine ⟨m, em, .inl ⟨by omega, by omega⟩, ?_⟩
        rw [← Int.natCast_mul]
        exact fin _ _ _ _ (by decide +kernel) s13 (num_piece hb).1 (num_piece hb).2 (.int _ (by omega))
      rcases List.mem_cons.mp hx with h | h
      · exact one 1 h (by decide)
      · rcases List.mem_cons.mp h with h | h
        · exact one 7 h (by decide)
        · exact one 16949152 (List.mem_singleton.mp h) (by decide)
    · rw [if_neg (by rw [decide_eq_true_eq]; exact k0)]
      by_cases k1 : v = 1
      · rw [if_pos (decide_eq_true k1)]
        refine ⟨st, d, p, 10, rfl, M1, by decide, fun H2 u s2 u0 u1 => ?_⟩
        refine ⟨st, d, p, u, rfl, M1.step s2, u0, u1, fun H3 z s3 hz => ?_⟩
        have s13 := (s1.trans s2).trans s3
        refine ⟨st, d, p, 5, rfl, hM.step s13, by decide, fun H4 w s4 w0 w1 => ?_⟩
        obtain ⟨c, r, e1, h1, h2, h3⟩ := hz
        have lz : z.length = r.length + 1 := by rw [len_tl, e1, List.length_cons]
        have lZ : (Str.ofString "Zz_09abcdefghijklmnopq").length = 22 := by decide +kernel
        have hZ : ∀ x ∈ tl "Zz_09abcdefghijklmnopq", isWordC x = true := by decide +kernel
        have kw : ∀ y : Str, ValOf "word" y (.str y) := fun y => .oth _ _ (fun e => kw_kn.mp e)
        walk_at "wp"
        by_cases w9 : w = 0
        · rw [if_pos (decide_eq_true w9)]
          refine ⟨big _ (by omega), ?_, ?_⟩
          · rw [len_app]
            exact big _ (by omega)
          · have e20 : tl (cutS (z ++ Str.ofString "Zz_09abcdefghijklmnopq") none (some 20)) = (tl (z ++ Str.ofString "Zz_09abcdefghijklmnopq")).take 20 := cut_take _ 20
            have hw : IsWord 20 (cutS (z ++ Str.ofString "Zz_09abcdefghijklmnopq") none (some 20)) := by
              refine ⟨c, (r ++ tl "Zz_09abcdefghijklmnopq").take 19, ?_, h1, fun x hx => ?_, ?_⟩
              · rw [e20, tl_append, e1]
                rfl
              · rcases List.mem_append.mp (List.mem_of_mem_take hx) with h | h
                · exact h2 x h
                · exact hZ x h
              · rw [List.length_take]
                omega
            exact fin _ _ _ _ (by decide +kernel) (s13.trans s4) (.word _ hw) (kw _) (.str _ (word_ok hw))
        · rw [if_neg (by rw [decide_eq_true_eq]; exact w9)]
          have hw : IsWord 20 z := ⟨c, r, e1, h1, h2, by omega⟩
          exact fin _ _ _ _ (by decide +kernel) (s13.trans s4) (.word _ hw) (kw _) (.str _ (word_ok hw))
      · rw [if_neg (by rw [decide_eq_true_eq]; exact k1)]
        refine ⟨by decide, fun a na => ?_⟩
        have s1a := s1.same (same_upd (o := .lst (SYMS.map V.str)) na)
        refine ⟨st, d, p, 60, rfl, hM.step s1a, by decide, fun H3 w s3 w0 w1 => ?_⟩
        have e3 := s3.keep _ _ (s1.ne na) upd_same
        have i0 := Int.emod_nonneg w (show (19 : Int) ≠ 0 by decide)
        have i1 := Int.emod_lt_of_pos w (show (0 : Int) < 19 by decide)
        obtain ⟨x, ex, hx⟩ := atI_in (xs := SYMS.map V.str) i0 (by simpa [SYMS] using i1)
        obtain ⟨z, h1, rfl⟩ := List.mem_map.mp hx
        refine ⟨w, rfl, by decide, _, SqL.of e3, _, ex, fin _ _ _ z (by decide +kernel) (s1a.trans s3) (.symbol z h1) (.oth _ _ (fun e => ks_kn.mp e)) (.str z (sym_strOk z h1))⟩
theorem PrOk.step {K : PySem.W.Frag} {H H' : Hp} {p : Addr} {r : Pr} {i : Int} (x : PrOk K H r) (hp : H p = some (.lst [.int i])) (s : Stp p H H') : PrOk K H' r := ⟨s.sqT hp x.at_, x.tok, x.sz, x.ks⟩
theorem PrOk.updL {K : PySem.W.Frag} {H : Hp} {l : Addr} {r : Pr} {xs : List V} {o : HO} (x : PrOk K H r) (h : H l = some (.lst xs)) : PrOk K (upd H l o) r := ⟨sqT_upd h x.at_, x.tok, x.sz, x.ks⟩
structure WT (rs : List Pr) (S : WSt) (es : List Ent) (tb : List Nat) : Prop where
  kyv : es.map (fun e => (e.k, e.y, e.v)) = rs.map (fun r => (r.k, r.z, r.v))
  ok : ∀ e ∈ es, EOk e
  ad : Adj none es
  tx : tl (flat S.ps) = txt es ++ tb
  tbc : tb = [] ∨ tb = [10]
  st : (S.last = EM ∧ (es = [] ∨ tb ≠ [])) ∨ (tb = [] ∧ S.last ≠ EM ∧ ∃ k', Piece k' S.last ∧ lastOf none es = some (k', S.last))
theorem rep_mem {n : Nat} {c : Nat} (h : c ∈ tl (rep SP n)) : c = 32 := by
  rw [tl_rep] at h
  obtain ⟨l, h1, h2⟩ := List.mem_flatten.mp h
  rw [List.eq_of_mem_replicate h1, show tl SP = [32, 32] by decide +kernel] at h2
  simpa using h2
theorem tok_piece {k z : Str} (h : Piece k z) : Tok2 z := piece_len h
theorem tok_ne {v : Str} (h : Tok2 v) : v ≠ EM := fun e => by
  have h1 := h.1
  rw [e, show EM.length = 0 by decide +kernel] at h1
  omega
theorem simp_kind {k y : Str} (h : Piece k y) (hs : y ∈ SIMP) : k = "symbol" := by
  rcases piece_head h with ⟨_, _, _, _, _, _, _, _, _, z⟩ | ⟨_, _, _, _, _, _, z, _⟩
  · exact absurd hs z
  · exact z
theorem WT.step {rs : List Pr} {S : WSt} {es : List Ent} {tb : List Nat} {r : Pr} (x : WT rs S es tb) (hd : S.depth ≤ 60) (hp : Piece r.k r.z) (hv : ValOf r.k r.z r.v) : ∃ es' tb', WT (rs ++ [r]) (wstep S r.z) es' tb' := by
  have d1 : wd1 r.z S.depth ≤ 60 := by unfold wd1; split <;> omega
  have eSP : SP.length = 2 := by decide +kernel
  have key : ∃ b : List Nat, (∀ c ∈ b, BlankC c) ∧ b.length ≤ 200 ∧ (b ≠ [] ∨ touch (lastOf none es) r.k r.z = true) ∧ tl (flat (wps S r.z)) = txt es ++ b := by
    unfold wps
    rcases x.st with ⟨h1, h2⟩ | ⟨h1, h2, k', h3, h4⟩
    · rw [if_pos h1]
      refine ⟨tb ++ tl (rep SP (wd1 r.z S.depth)), fun c hc => ?_, ?_, ?_, ?_⟩
      · rcases List.mem_append.mp hc with h | h
        · rcases x.tbc with e | e
          · rw [e] at h; cases h
          · rw [e] at h; exact .inr (.inr (List.mem_singleton.mp h))
        · exact .inl (rep_mem h)
      · rw [List.length_append, ← len_tl, rep_len, eSP]
        rcases x.tbc with e | e <;> rw [e] <;> simp <;> omega
      · rcases h2 with e | e
        · right; rw [e]; rfl
        · left; intro z; exact e (List.append_eq_nil_iff.mp z).1
      · rw [flat_snoc, tl_append, x.tx, List.append_assoc]
    · rw [if_neg h2]
      have htx := x.tx
      rw [h1, List.append_nil] at htx
      split
      · refine ⟨[32], fun c hc => .inl (List.mem_singleton.mp hc), by decide, .inl (List.cons_ne_nil _ _), ?_⟩
        rw [flat_snoc, tl_append, htx, show tl BL = [32] by decide +kernel]
      · rename_i hn
        refine ⟨[], fun c hc => (by cases hc), by decide, .inr ?_, by rw [htx, List.append_nil]⟩
        rw [h4]
        have tq : touch (some (k', S.last)) r.k r.z = (if S.last ∈ SIMP then true else if r.k = "symbol" then (!decide (k' = "symbol") || decide (r.z ∈ SIMP)) else (decide (k' = "symbol") || (decide (k' = "number") && decide (r.k = "word")))) := rfl
        rw [tq]
        by_cases hs : S.last ∈ SIMP
        · rw [if_pos hs]
        · rw [if_neg hs]
          have hz : r.z ∈ SIMP := by
            by_cases hb : S.last ∈ NB
            · exact absurd ((show ∀ z ∈ NB, z ∈ SIMP by decide +kernel) _ hb) hs
            · by_cases ha : r.z ∈ NA
              · exact (show ∀ z ∈ NA, z ∈ SIMP by decide +kernel) _ ha
              · exact absurd ⟨hb, ha⟩ hn
          rw [if_pos (simp_kind hp hz), decide_eq_true hz, Bool.or_true]
  obtain ⟨b, b1, b2, b3, b4⟩ := key
  have eb : tl (⟨b.toArray⟩ : Str) = b := rfl
  have oe : EOk ⟨⟨b.toArray⟩, r.k, r.z, r.v⟩ := ⟨b1, by rw [len_tl, eb]; exact b2, hp, hv⟩
  have kyv : (es ++ [(⟨⟨b.toArray⟩, r.k, r.z, r.v⟩ : Ent)]).map (fun e => (e.k, e.y, e.v)) = (rs ++ [r]).map (fun r => (r.k, r.z, r.v)) := by
    rw [List.map_append, List.map_append, x.kyv]
    rfl
  have ok : ∀ e ∈ es ++ [(⟨⟨b.toArray⟩, r.k, r.z, r.v⟩ : Ent)], EOk e := fun e he => by
    rcases List.mem_append.mp he with h | h
    · exact x.ok e h
    · rw [List.mem_singleton.mp h]; exact oe
  have ad := adj_snoc (⟨⟨b.toArray⟩, r.k, r.z, r.v⟩ : Ent) es none x.ad b3
  have tx : tl (flat (wps S r.z ++ [r.z])) = txt (es ++ [(⟨⟨b.toArray⟩, r.k, r.z, r.v⟩ : Ent)]) := by
    rw [flat_snoc, tl_append, b4, txt_snoc]
  unfold wstep wfin
  split
  · refine ⟨_, [10], kyv, ok, ad, ?_, .inr rfl, .inl ⟨rfl, .inr (List.cons_ne_nil _ _)⟩⟩
    show tl (flat (wps S r.z ++ [r.z] ++ [NL])) = _
    rw [flat_snoc, tl_append, tx, show tl NL = [10] by decide +kernel]
  · refine ⟨_, [], kyv, ok, ad, ?_, .inl rfl, .inr ⟨rfl, tok_ne (tok_piece hp), r.k, hp, lastOf_snoc _ _ _⟩⟩
    show tl (flat (wps S r.z ++ [r.z])) = _
    rw [tx, List.append_nil]
theorem wt_run (rs : List Pr) (hl : rs.length ≤ 60) (h : ∀ r ∈ rs, Piece r.k r.z ∧ ValOf r.k r.z r.v) : ∀ i, i ≤ rs.length → ∃ es tb, WT (rs.take i) (wrun ((rs.map Pr.z).take i)) es tb
  | 0, _ => ⟨[], [], rfl, fun _ h => (by cases h), trivial, rfl, .inl rfl, .inl ⟨rfl, .inl rfl⟩⟩
  | i + 1, hi => by
    obtain ⟨es, tb, x⟩ := wt_run rs hl h i (by omega)
    have ok := WOk.run (rs.map Pr.z) (by rw [List.length_map]; exact hl) (fun z hz => by
      obtain ⟨r, hr, rfl⟩ := List.mem_map.mp hz
      exact tok_piece (h r hr).1) i (by rw [List.length_map]; omega)
    have hi2 : i < (rs.map Pr.z).length := by rw [List.length_map]; omega
    have hi3 : i < rs.length := by omega
    have hr := h _ (List.getElem_mem hi3)
    have y := x.step (r := rs[i]) (by have := ok.dep; omega) hr.1 hr.2
    rw [List.take_succ_eq_append_getElem hi3, List.take_succ_eq_append_getElem hi2, wrun_snoc, List.getElem_map]
    exact y
theorem wt_out (rs : List Pr) (hl : rs.length ≤ 60) (h : ∀ r ∈ rs, Piece r.k r.z ∧ ValOf r.k r.z r.v) : ∃ es tail, es.map (fun e => (e.k, e.y, e.v)) = rs.map (fun r => (r.k, r.z, r.v)) ∧ (∀ e ∈ es, EOk e) ∧ Adj none es ∧ tl (flat (wOut (wrun (rs.map Pr.z)))) = txt es ++ tail ∧ ∀ c ∈ tail, BlankC c := by
  obtain ⟨es, tb, x⟩ := wt_run rs hl h rs.length (Nat.le_refl _)
  rw [List.take_length] at x
  have et : (rs.map Pr.z).take rs.length = rs.map Pr.z := List.take_of_length_le (by rw [List.length_map]; exact Nat.le_refl _)
  rw [et] at x
  have h10 : ∀ c ∈ [10], BlankC c := fun c hc => .inr (.inr (List.mem_singleton.mp hc))
  unfold wOut
  rcases x.st with ⟨h1, h2⟩ | ⟨h1, h2, _⟩
  · rw [if_pos h1]
    refine ⟨es, tb, x.kyv, x.ok, x.ad, x.tx, ?_⟩
    rcases x.tbc with e | e <;> rw [e]
    · intro c hc; cases hc
    · exact h10
  · rw [if_neg h2]
    refine ⟨es, [10], x.kyv, x.ok, x.ad, ?_, h10⟩
    rw [flat_snoc, tl_append, x.tx, h1, List.append_nil, show tl NL = [10] by decide +kernel]
theorem sgs_kv : ∀ (es : List Ent) (q : Nat × Nat), (sgs q es).map (fun g => (g.k, g.v)) = es.map (fun e => (e.k, e.v))
  | [], _ => rfl
  | e :: r, q => by
    rw [sgs, List.map_cons, List.map_cons, sgs_kv r]
theorem cut2 {K : PySem.W.Frag} {H : Hp} {a : Addr} {k v l c : V} {Q : VK} (h : SqT K H a [k, v, l, c]) (q : ∀ p, H p = none → Q (.ref p) (upd H p (.tup [k, v]))) : rSlT K (.ref a) none (some 2) H Q :=
  ⟨a, _, rfl, h, show ¬ (HT.sIx 4 0 none = 0 ∧ HT.sIx 4 4 (some 2) = 4) by decide, q⟩
def Atom (v : V) : Prop := (∃ i, v = .int i) ∨ ∃ z, v = .str z
theorem Atom.same {K : PySem.W.Frag} {H : Hp} {v : V} (h : Atom v) (n : Nat) : SameD K H n v v := by
  rcases h with ⟨i, rfl⟩ | ⟨z, rfl⟩
  · exact .int n i
  · exact .str n z
theorem ValOf.atom {k y : Str} {v : V} (h : ValOf k y v) : Atom v := by
  cases h with
  | num _ m _ _ => exact .inl ⟨_, rfl⟩
  | oth _ _ _ => exact .inr ⟨_, rfl⟩
theorem same_pair {K : PySem.W.Frag} {H : Hp} {a b : Addr} {k : Str} {v : V} (h : Atom v) (ha : SqT K H a [.str k, v]) (hb : SqT K H b [.str k, v]) : SameD K H 1 (.ref a) (.ref b) := by
  refine .tup 0 a b _ _ ha hb rfl (show 2 ≤ 1000 by decide) fun i x y e1 e2 => ?_
  rw [e1] at e2
  cases e2
  have hm := List.mem_of_getElem? e1
  rcases List.mem_cons.mp hm with h1 | hm
  · rw [h1]; exact .str _ _
  · rw [List.mem_singleton.mp hm]; exact h.same 0
theorem same_ints {K : PySem.W.Frag} {H : Hp} {a b : Addr} {i j : Int} (ha : SqT K H a [.int i, .int j]) (hb : SqT K H b [.int i, .int j]) : SameD K H 1 (.ref a) (.ref b) := by
  refine .tup 0 a b _ _ ha hb rfl (show 2 ≤ 1000 by decide) fun n x y e1 e2 => ?_
  rw [e1] at e2
  cases e2
  have hm := List.mem_of_getElem? e1
  rcases List.mem_cons.mp hm with h1 | hm
  · rw [h1]; exact .int _ _
  · rw [List.mem_singleton.mp hm]; exact .int _ _
theorem ok_law_same (T : Txt K mg A) : FnOk P w K mg base CX0 3 A.f_law_same A.d_law_same ["actual", "expected"] (sp_law_same 1 K) := ok_law_same_n T 1
def sp_law (K : PySem.W.Frag) : Sp := fun vs H Q _ => ∃ (a : Addr) (ns : List Int), vs = [.ref a] ∧ SqL K H a (ns.map V.int) ∧ ∀ H', Q (.bl true) H'
theorem sp_law_of {K : PySem.W.Frag} {H : Hp} {a : Addr} {ns : List Int} (_ : ns.length ≤ 63) (hb : ∀ z ∈ ns, Builtin.Int.intBits z ≤ 1048576) (_ : Only H) (hS : SqL K H a (ns.map V.int)) : sp_law K [.ref a] H (fun v _ => v = .bl true) fun _ _ _ => False :=
  ⟨a, ns, rfl, hS, fun _ => rfl⟩
theorem ok_law (T : Txt K mg A) : FnOk P w K mg base CX0 4 A.f_law A.d_law ["script"] (sp_law K) := by
  have G_law_stream := ok_law_stream (P := P) (w := w) (base := base) T
  have G_write_signs := ok_write_signs (P := P) (w := w) (base := base) T
  have G_read_signs := ok_read_signs (P := P) (w := w) (base := base) T
  have G_law_same := ok_law_same (P := P) (w := w) (base := base) T
  have G_law_pair := ok_law_pair (P := P) (w := w) (base := base) T
  have G_end_of := ok_end_of (P := P) (w := w) (base := base) T
  have G_law_next := ok_law_next (P := P) (w := w) (base := base) T
  refine T.F_law.ok sc_law (fun vs H Q E h => ?_) (fun cdv A' outer s H vs Q E hr h => ?_)
  · obtain ⟨a, ns, rfl, _⟩ := h
    rfl
  · obtain ⟨a, ns, rfl, hS, q⟩ := h
    refine ⟨_, (pss_cons (ps_set (i := 1) sc_law.nd rfl (Or.inr rfl) (pe_call G_law_stream (hr.mono (by decide)) (by rfl) T.g_law_stream T.F_law_stream.kp T.B_law_stream .nil pass0 (pa_cons (pv 0) (pa_cons pe_int (pa_cons pe_int pa_nil))))) 
    (pss_cons (ps_setLc (i := 2) (own := [("k", 3)]) (by rfl) sc_law.nd rfl rfl (sw_true rfl rfl rfl (by decide +kernel)) (pi_range1 (by rfl) T.b_range (pa_cons (pe_call G_law_next (hr.mono (by decide)) (by rfl) T.g_law_next T.F_law_next.kp T.B_law_next .nil pass0 (pa_cons (pv 1) (pa_cons pe_int pa_nil))) pa_nil)) (blkOk_by (own := [("k", 3)]) (N := ["script", "stream", "pairs", "k", "text", "signs", "line", "column", "char", "sign"]) (sc := defScope s_law) (by decide +kernel)) (fun _ _ _ _ _ => (pg_name (i := 3) sc_law.nd rfl (Or.inl rfl) (Or.inr rfl))) (fun _ _ _ _ _ => pts_nil) (fun _ _ _ _ _ => (pe_call G_law_pair hr (by rfl) T.g_law_pair T.F_law_pair.kp T.B_law_pair .nil pass0 (pa_cons (pv 1) pa_nil)))) 
    (pss_cons (ps_set (i := 4) sc_law.nd rfl (Or.inl rfl) (pe_call G_write_signs (hr.mono (by decide)) (by rfl) T.g_write_signs T.F_write_signs.kp T.B_write_signs .nil pass0 (pa_cons (pe_callTy call_list_of (by rfl) T.b_list (by decide +kernel) (pa_cons (pv 2) pa_nil)) pa_nil))) 
    (pss_cons (ps_if (pt_not (pt_val (pe_callB call_isi (by rfl) T.b_isinstance (by decide +kernel) (pa_cons (pv 4) (pa_cons (pe_bltn (v := .ty "str") (by rfl) T.b_str (by decide +kernel) rfl) pa_nil))))) 
      (pss_one (ps_ret pe_bl)) pss_nil) 
    (pss_cons (ps_set (i := 5) sc_law.nd rfl (Or.inl rfl) (pe_call G_read_signs hr (by rfl) T.g_read_signs T.F_read_signs.kp T.B_read_signs .nil pass0 (pa_cons (pv 4) pa_nil))) 
    (pss_cons (ps_if (PW.pt (pw_or (pt_not (pt_val (pe_callB call_isi (by rfl) T.b_isinstance (by decide +kernel) (pa_cons (pv 5) (pa_cons (pe_bltn (v := .ty "list") (by rfl) T.b_list (by decide +kernel) rfl) pa_nil))))) (pw_or1 (pt_cmpR op_ne (pe_callB call_len_seq (by rfl) T.b_len (by decide +kernel) (pa_cons (pv 5) pa_nil)) (pe_callB call_len_seq (by rfl) T.b_len (by decide +kernel) (pa_cons (pv 2) pa_nil)) (nomark _))))) 
      (pss_one (ps_ret pe_bl)) pss_nil) 
    (pss_cons (ps_for PassesOwn.never rfl (pi_range1 (by rfl) T.b_range (pa_cons (pe_callB call_len_seq (by rfl) T.b_len (by decide +kernel) (pa_cons (pv 2) pa_nil)) pa_nil)) (pg_name (i := 3) sc_law.nd rfl (Or.inl rfl)) 
      (pss_one (ps_if (PW.pt (pw_or (pt_not (pt_val (pe_callB call_isi (by rfl) T.b_isinstance (by decide +kernel) (pa_cons (pe_ix ix_list (pv 5) (pv 3) (fun _ _ => rfl)) (pa_cons (pe_bltn (v := .ty "tuple") (by rfl) T.b_tuple (by decide +kernel) rfl) pa_nil))))) (pw_or (pt_cmpR op_ne (pe_callB call_len_seq (by rfl) T.b_len (by decide +kernel) (pa_cons (pe_ix ix_list (pv 5) (pv 3) (fun _ _ => rfl)) pa_nil)) pe_int (nomark _)) (pw_or1 (pt_not (pt_val (pe_call G_law_same hr (by rfl) T.g_law_same T.F_law_same.kp T.B_law_same .nil pass0 (pa_cons (pe_slice (r := rSlT K) sl_tup (pe_ix ix_list (pv 5) (pv 3) (fun _ _ => rfl)) po_none (po_some pe_int)) (pa_cons (pe_ix ix_list (pv 2) (pv 3) (fun _ _ => rfl)) pa_nil))))))))) 
        (pss_one (ps_ret pe_bl)) pss_nil))) 
    (pss_cons (ps_set (i := 6) sc_law.nd rfl (Or.inl rfl) pe_int) 
    (pss_cons (ps_set (i := 7) sc_law.nd rfl (Or.inl rfl) pe_int) 
    (pss_cons (ps_for PassesOwn.never rfl (pi_str (pv 4)) (pg_name (i := 8) sc_law.nd rfl (Or.inl rfl)) 
      (pss_cons (ps_set (i := 7) sc_law.nd rfl (Or.inl rfl) (pe_op op_add (pv 7) pe_int)) 
      (pss_one (ps_if (pt_cmpR op_eq (pv 8) pe_str (nomark _)) 
        (pss_cons (ps_set (i := 6) sc_law.nd rfl (Or.inl rfl) (pe_op op_add (pv 6) pe_int)) 
        (pss_one (ps_set (i := 7) sc_law.nd rfl (Or.inl rfl) pe_int))) pss_nil)))) 
    (pss_cons (ps_if (pt_not (pt_val (pe_call G_law_same hr (by rfl) T.g_law_same T.F_law_same.kp T.B_law_same .nil pass0 (pa_cons (pe_call G_end_of (hr.mono (by decide)) (by rfl) T.g_end_of T.F_end_of.kp T.B_end_of .nil pass0 (pa_cons (pv 4) pa_nil)) (pa_cons (pe_tup (pa_cons (pv 6) (pa_cons (pv 7) pa_nil))) pa_nil))))) 
      (pss_one (ps_ret pe_bl)) pss_nil) 
    (pss_one (ps_ret (pe_call G_law_same hr (by rfl) T.g_law_same T.F_law_same.kp T.B_law_same .nil pass0 (pa_cons (pe_call G_write_signs (hr.mono (by decide)) (by rfl) T.g_write_signs T.F_write_signs.kp T.B_write_signs .nil pass0 (pa_cons (pe_lc (own := [("sign", 9)]) (by rfl) sc_law.nd (pi_list (pv 5)) (blkOk_by (own := [("sign", 9)]) (N := ["script", "stream", "pairs", "k", "text", "signs", "line", "column", "char", "sign"]) (sc := defScope s_law) (by decide +kernel)) (fun _ _ _ _ _ => (pg_name (i := 9) sc_law.nd rfl (Or.inl rfl) (Or.inr rfl))) (fun _ _ _ _ _ => pts_nil) (fun _ _ _ _ _ => (pe_slice (r := rSlT K) sl_tup (pv 9) po_none (po_some pe_int)))) pa_nil)) (pa_cons (pv 4) pa_nil)))))))))))))))), ?_⟩
    walk_at "wp"
    refine ⟨a, ns, 0, 40, rfl, hS, by decide, by decide, fun H1 st d p s1 hM np => ?_⟩
    refine ⟨st, d, p, 60, rfl, hM, by decide, fun H2 v s2 v0 v1 => ?_⟩
    obtain ⟨n, rfl⟩ : ∃ n : Nat, v = (n : Int) := ⟨v.toNat, by omega⟩
    refine ⟨_, rfl, by omega, by omega, fun D hD => ?_⟩
    have nDp := s2.ne hD
    have hD1 : H1 D = none := s2.free hD nDp
    rw [Int.toNat_natCast]
    obtain ⟨Pv, hPv⟩ : ∃ Pv : Nat → Hp → Prop, ∀ i H', Pv i H' ↔ Stp p H1 H' ∧ ∃ rs : List Pr, H' D = some (.lst (rs.map fun r => V.ref r.t)) ∧ rs.length = i ∧ (∀ r ∈ rs, PrOk K H' r) ∧ ∀ r ∈ rs, Piece r.k r.z ∧ ValOf r.k r.z r.v := ⟨_, fun _ _ => Iff.rfl⟩
    refine loopc_it (walk_range0 (n := n)) Pv ((hPv _ _).mpr ⟨s2.same (same_upd hD), [], upd_same, rfl, fun _ h => (by cases h), fun _ h => by cases h⟩) (fun _ _ _ _ => trivial) ?_ ?_
    · intro i x H3 H4 hi pw y
      obtain ⟨s3, rs, ez, hl, hok, hpc⟩ := (hPv _ _).mp pw
      obtain ⟨rfl, rfl⟩ := y
      walk_at "wp"
      refine ⟨st, d, p, rfl, hM.step s3, fun H5 t k vv z s5 e5 pc va tk ks => ?_⟩
      obtain ⟨i3, ep3⟩ := s3.pl
      have ez5 := s5.keep _ _ nDp ez
      refine ⟨_, ez5, small1000 (by rw [List.length_map]; omega), (hPv _ _).mpr ⟨(s3.trans s5).upd hD1 nDp, rs ++ [⟨t, k, vv, z⟩], ?_, ?_, ?_, ?_⟩⟩
      · rw [upd_same, List.map_append]
        rfl
      · rw [List.length_append, hl]
        rfl
      · intro r hr
        rcases List.mem_append.mp hr with hr | hr
        · exact ((hok r hr).step ep3 s5).updL ez5
        · rw [List.mem_singleton.mp hr]
          exact PrOk.updL ⟨SqT.of e5, tk, tok_piece pc, ks⟩ ez5
      · intro r hr
        rcases List.mem_append.mp hr with hr | hr
        · exact hpc r hr
        · rw [List.mem_singleton.mp hr]
          exact ⟨pc, va⟩
    · intro H3 pw
      obtain ⟨s3, rs, ez, hl, hok, hpc⟩ := (hPv _ _).mp pw
      refine ⟨_, .inl (SqL.of ez), fun l nl => ?_⟩
      have s4 := same_upd (o := .lst (rs.map fun r => V.ref r.t)) nl
      refine ⟨l, rs, rfl, SqL.of upd_same, fun r hr => (hok r hr).same s4, by omega, fun H5 s5 => ?_⟩
      have s35 := s4.trans s5
      obtain ⟨es, tail, hkyv, hok2, hadj, htx, htail⟩ := wt_out rs (by omega) hpc
      have hzl : (rs.map Pr.z).length ≤ 60 := by rw [List.length_map]; omega
      have wok := WOk.run (rs.map Pr.z) hzl (fun z hz => by
        obtain ⟨r, hr, rfl⟩ := List.mem_map.mp hz
        exact tok_piece (hpc r hr).1) _ (Nat.le_refl _)
      rw [List.take_length] at wok
      have lZ : (flat (wOut (wrun (rs.map Pr.z)))).length ≤ 20000 := by
        have h1 := wok.len
        have eNL : NL.length = 1 := by decide +kernel
        unfold wOut
        split
        · omega
        · rw [flat_snoc, len_app, eNL]
          omega
      obtain ⟨Z, hZ⟩ : ∃ Z, flat (wOut (wrun (rs.map Pr.z))) = Z := ⟨_, rfl⟩
      rw [hZ] at htx lZ ⊢
      walk_at "wp"
      refine isi ty_str (r := true) (by decide +kernel) ?_
      walk_at "wp"
      have hLex : Lex (tl Z) 1 1 (sgs (1, 1) es) := by
        rw [htx]
        exact lex_main htail es none (1, 1) hok2 hadj
      have les : es.length = rs.length := by
        have e := congrArg List.length hkyv
        rw [List.length_map, List.length_map] at e
        exact e
      refine ⟨Z, sgs (1, 1) es, rfl, by omega, by rw [sgs_len]; omega, hLex, fun H6 sl ags s6 e6 n6 g6 a6 => ?_⟩
      refine isi (ty_lst (SqL.of e6)) (r := true) (by decide +kernel) ?_
      walk_at "wp"
      have s36 := s35.trans s6
      have lags : ags.length = rs.length := by
        have e := congrArg List.length g6
        rw [List.length_map, sgs_len] at e
        omega
      have hkv : ags.map (fun x => (x.2.k, x.2.v)) = rs.map fun r => (r.k, r.v) := by
        have e1 := sgs_kv es (1, 1)
        rw [← g6, List.map_map] at e1
        have e2 := congrArg (List.map fun x : Str × Str × V => (x.1, x.2.2)) hkyv
        rw [List.map_map, List.map_map] at e2
        exact e1.trans e2
      have at_ : ∀ i (h1 : i < ags.length) (h2 : i < rs.length), ags[i].2.k = rs[i].k ∧ ags[i].2.v = rs[i].v := fun i h1 h2 => by
        have e := congrArg (fun l : List (Str × V) => l[i]?) hkv
        simp only [List.getElem?_map, List.getElem?_eq_getElem h1, List.getElem?_eq_getElem h2, Option.map_some, Option.some.injEq, Prod.mk.injEq] at e
        exact e
      refine ⟨_, .inl (SqL.of e6), _, .inl (SqL.of (s36 _ _ ez)), ?_⟩
      rw [if_neg (by simp [lags])]
      refine ⟨_, .inl (SqL.of (s36 _ _ ez)), by rw [List.length_map]; omega, by rw [List.length_map]; omega, ?_⟩
      obtain ⟨Pw, hPw⟩ : ∃ Pw : Nat → St → Hp → Prop, ∀ i σ H', Pw i σ H' ↔ Same H6 H' ∧ ∃ v3, σ = [some (V.ref a), some (V.ref st), some (V.ref D), v3, some (V.str Z), some (V.ref sl), none, none, none, none] := ⟨_, fun _ _ _ => Iff.rfl⟩
      refine loop_it (walk_range0 (n := (rs.map fun r => V.ref r.t).length)) Pw ((hPw _ _ _).mpr ⟨Same.refl _, _, rfl⟩) (fun _ _ _ _ _ => trivial) ?_ ?_
      · intro i x σ H7 H8 hi pw y
        obtain ⟨s7, v3, rfl⟩ := (hPw _ _ _).mp pw
        obtain ⟨rfl, rfl⟩ := y
        rw [List.length_map] at hi
        have hia : i < ags.length := by omega
        have ex : (ags.map fun p => V.ref p.1)[i]? = some (V.ref ags[i].1) := by rw [List.getElem?_map, List.getElem?_eq_getElem hia]; rfl
        have er : (rs.map fun r => V.ref r.t)[i]? = some (V.ref rs[i].t) := by rw [List.getElem?_map, List.getElem?_eq_getElem hi]; rfl
        have e7 := s7 _ _ e6
        have t7 := s7 _ _ (a6 _ (List.getElem_mem hia))
        have h7 := at_ i hia hi
        walk_at "wp"
        refine ⟨_, SqL.of e7, _, atI_nat ex, isi (ty_tup (SqT.of t7)) (r := true) (by decide +kernel) ?_⟩
        walk_at "wp"
        refine ⟨_, SqL.of e7, _, atI_nat ex, _, rfl, _, .inr (SqT.of t7), ?_⟩
        rw [if_neg (by simp [Sg.tup])]
        refine ⟨_, SqL.of e7, _, atI_nat ex, cut2 (SqT.of t7) fun c nc => ?_⟩
        have s8 := same_upd (o := .tup [V.str ags[i].2.k, ags[i].2.v]) nc
        have s78 := s7.trans s8
        refine ⟨_, SqL.of ((s36.trans s78) _ _ ez), _, atI_nat er, ?_⟩
        have hr2 := (hok _ (List.getElem_mem hi)).same (s36.trans s78)
        refine ⟨_, _, rfl, same_pair (hpc _ (List.getElem_mem hi)).2.atom (by rw [← h7.1, ← h7.2]; exact SqT.of upd_same) hr2.at_, ?_⟩
        walk_at "wp"
        exact (hPw _ _ _).mpr ⟨s78, _, rfl⟩
      · intro σ H7 pw
        obtain ⟨s7, v3, rfl⟩ := (hPw _ _ _).mp pw
        walk_at "wp"
        obtain ⟨Px, hPx⟩ : ∃ Px : Nat → St → Hp → Prop, ∀ i σ H', Px i σ H' ↔ H' = H7 ∧ ∃ v8, σ = [some (V.ref a), some (V.ref st), some (V.ref D), v3, some (V.str Z), some (V.ref sl), some (V.int ((plc (1, 1) ((tl Z).take i)).1 : Int)), some (V.int ((plc (1, 1) ((tl Z).take i)).2 : Int)), v8, none] := ⟨_, fun _ _ _ => Iff.rfl⟩
        have eNL : Str.ofString "\n" = ⟨#[10]⟩ := by decide +kernel
        refine loop_it (walk_str (z := Z)) Px ((hPx _ _ _).mpr ⟨rfl, none, rfl⟩) (fun _ _ _ _ _ => trivial) ?_ ?_
        · intro i x σ H8 H9 hi pw y
          obtain ⟨rfl, v8, rfl⟩ := (hPx _ _ _).mp pw
          obtain ⟨rfl, u, eu, rfl⟩ := y
          have hi2 : i < (tl Z).length := by
            have e := len_tl Z
            have e2 : Z.length = Z.cps.size := rfl
            omega
          have eu2 : (tl Z)[i] = u := by
            have e3 : (tl Z)[i]? = some u := by
              rw [← eu]
              exact Array.getElem?_toList
            rw [List.getElem?_eq_getElem hi2] at e3
            exact Option.some.inj e3
          have st2 : plc (1, 1) ((tl Z).take (i + 1)) = if u = 10 then ((plc (1, 1) ((tl Z).take i)).1 + 1, 1) else ((plc (1, 1) ((tl Z).take i)).1, (plc (1, 1) ((tl Z).take i)).2 + 1) := by
            rw [List.take_succ_eq_append_getElem hi2, plc_app, plc_one, eu2]
          walk_at "wp"
          rw [eNL]
          by_cases h10 : u = 10
          · rw [if_pos (decide_eq_true (by rw [h10]))]
            rw [if_pos h10] at st2
            exact (hPx _ _ _).mpr ⟨rfl, _, by rw [st2]; rfl⟩
          · rw [if_neg (by rw [decide_eq_true_eq, sgn_eq]; exact h10)]
            rw [if_neg h10] at st2
            exact (hPx _ _ _).mpr ⟨rfl, _, by rw [st2]; rfl⟩
        · intro σ H8 pw
          obtain ⟨rfl, v8, rfl⟩ := (hPx _ _ _).mp pw
          have ef : (tl Z).take Z.cps.size = tl Z := List.take_of_length_le (Nat.le_refl _)
          rw [ef]
          walk_at "wp"
          refine ⟨Z, rfl, by omega, fun H9 t1 s9 e9 => ⟨by decide, fun t2 n2 => ?_⟩⟩
          have s10 := same_upd (o := .tup [V.int ((plc (1, 1) (tl Z)).1 : Int), V.int ((plc (1, 1) (tl Z)).2 : Int)]) n2
          refine ⟨_, _, rfl, same_ints (SqT.of (s10 _ _ e9)) (SqT.of upd_same), ?_⟩
          walk_at "wp"
          have s610 := s7.trans (s9.trans s10)
          refine ⟨⟨_, SqL.of (s610 _ _ e6)⟩, fun D2 nD2 => ?_⟩
          obtain ⟨Py, hPy⟩ : ∃ Py : Nat → Hp → Prop, ∀ i H', Py i H' ↔ Same H6 H' ∧ ∃ qs : List Pr, H' D2 = some (.lst (qs.map fun r => V.ref r.t)) ∧ qs.map (fun r => (r.k, r.z, r.v)) = (rs.take i).map (fun r => (r.k, r.z, r.v)) ∧ ∀ r ∈ qs, PrOk K H' r := ⟨_, fun _ _ => Iff.rfl⟩
          have hD6 : H6 D2 = none := by
            cases e : H6 D2 with
            | none => rfl
            | some o =>
              have h := s610 _ _ e
              rw [nD2] at h
              cases h
          refine loopc_it (walk_list (xs := ags.map fun p => V.ref p.1)) Py ((hPy _ _).mpr ⟨same_upd2 s610 hD6, [], upd_same, rfl, fun _ h => (by cases h)⟩) (fun i H' _ pw => ((hPy _ _).mp pw).1.seq (SqL.of e6)) ?_ ?_
          · intro i x H11 H12 hi pw y
            obtain ⟨s11, qs, eq, hq, hqok⟩ := (hPy _ _).mp pw
            obtain ⟨rfl, ex⟩ := yat_at y
            rw [List.length_map] at hi
            have hir : i < rs.length := by omega
            rw [List.getElem?_map, List.getElem?_eq_getElem hi] at ex
            cases ex
            have t11 := s11 _ _ (a6 _ (List.getElem_mem hi))
            have h7 := at_ i hi hir
            have lq : qs.length = i := by
              have e := congrArg List.length hq
              rw [List.length_map, List.length_map, List.length_take] at e
              omega
            walk_at "wp"
            refine cut2 (SqT.of t11) fun c nc => ?_
            have s12 := same_upd (o := .tup [V.str ags[i].2.k, ags[i].2.v]) nc
            have eq12 := s12 _ _ eq
            have hri := hok _ (List.getElem_mem hir)
            refine ⟨_, eq12, small1000 (by rw [List.length_map]; omega), (hPy _ _).mpr ⟨same_upd2 (s11.trans s12) hD6, qs ++ [⟨c, rs[i].k, rs[i].v, rs[i].z⟩], ?_, ?_, fun r hr => ?_⟩⟩
            · rw [upd_same, List.map_append]
              rfl
            · rw [List.map_append, hq, List.take_succ_eq_append_getElem hir, List.map_append]
              rfl
            · rcases List.mem_append.mp hr with hr | hr
              · exact ((hqok r hr).same s12).updL eq12
              · rw [List.mem_singleton.mp hr]
                refine PrOk.updL ⟨?_, hri.tok, hri.sz, hri.ks⟩ eq12
                show SqT K _ c [.str rs[i].k, rs[i].v]
                rw [← h7.1, ← h7.2]
                exact SqT.of upd_same
          · intro H11 pw
            obtain ⟨s11, qs, eq, hq, hqok⟩ := (hPy _ _).mp pw
            rw [List.length_map, lags, List.take_length] at hq
            have lq : qs.length = rs.length := by
              have e := congrArg List.length hq
              rw [List.length_map, List.length_map] at e
              exact e
            have hqz : qs.map Pr.z = rs.map Pr.z := by
              have e2 := congrArg (List.map fun x : Str × Str × V => x.2.1) hq
              rw [List.map_map, List.map_map] at e2
              exact e2
            refine ⟨D2, qs, rfl, SqL.of eq, hqok, by omega, fun H12 s12 => ⟨_, _, rfl, ?_, q _⟩⟩
            rw [hqz, hZ]
            exact .str 1 Z
theorem all_mk {K : PySem.W.Frag} {h : Heap} {mg : Str → Option Value} {fa : Addr} (X : K.In h) (G : h.Ns mainGlobals mg) (hfa : mg "law" = some (.ref fa))
    {x_read_signs : Addr} {od_read_signs an_read_signs : Option Addr} {sl_read_signs : Array (Option Value)} {oc_read_signs kV_read_signs dc_read_signs pm_read_signs cd_read_signs ct_read_signs : Value}
    {x_sign_at : Addr} {od_sign_at an_sign_at : Option Addr} {sl_sign_at : Array (Option Value)} {oc_sign_at kV_sign_at dc_sign_at pm_sign_at cd_sign_at ct_sign_at : Value}
    {x_run_length : Addr} {od_run_length an_run_length : Option Addr} {sl_run_length : Array (Option Value)} {oc_run_length kV_run_length dc_run_length pm_run_length cd_run_length ct_run_length : Value}
    {x_write_signs : Addr} {od_write_signs an_write_signs : Option Addr} {sl_write_signs : Array (Option Value)} {oc_write_signs kV_write_signs dc_write_signs pm_write_signs cd_write_signs ct_write_signs : Value}
    {x_end_of : Addr} {od_end_of an_end_of : Option Addr} {sl_end_of : Array (Option Value)} {oc_end_of kV_end_of dc_end_of pm_end_of cd_end_of ct_end_of : Value}
    {x_law_cell : Addr} {od_law_cell an_law_cell : Option Addr} {sl_law_cell : Array (Option Value)} {oc_law_cell kV_law_cell dc_law_cell pm_law_cell cd_law_cell ct_law_cell : Value}
    {x_law_draws : Addr} {od_law_draws an_law_draws : Option Addr} {sl_law_draws : Array (Option Value)} {oc_law_draws kV_law_draws dc_law_draws pm_law_draws cd_law_draws ct_law_draws : Value}
    {x_law_stream : Addr} {od_law_stream an_law_stream : Option Addr} {sl_law_stream : Array (Option Value)} {oc_law_stream kV_law_stream dc_law_stream pm_law_stream cd_law_stream ct_law_stream : Value}
    {x_law_next : Addr} {od_law_next an_law_next : Option Addr} {sl_law_next : Array (Option Value)} {oc_law_next kV_law_next dc_law_next pm_law_next cd_law_next ct_law_next : Value}
    {x_law_word : Addr} {od_law_word an_law_word : Option Addr} {sl_law_word : Array (Option Value)} {oc_law_word kV_law_word dc_law_word pm_law_word cd_law_word ct_law_word : Value}
    {x_law_is_integer : Addr} {od_law_is_integer an_law_is_integer : Option Addr} {sl_law_is_integer : Array (Option Value)} {oc_law_is_integer kV_law_is_integer dc_law_is_integer pm_law_is_integer cd_law_is_integer ct_law_is_integer : Value}
    {x_law_same : Addr} {od_law_same an_law_same : Option Addr} {sl_law_same : Array (Option Value)} {oc_law_same kV_law_same dc_law_same pm_law_same cd_law_same ct_law_same : Value}
    {x_law_pair : Addr} {od_law_pair an_law_pair : Option Addr} {sl_law_pair : Array (Option Value)} {oc_law_pair kV_law_pair dc_law_pair pm_law_pair cd_law_pair ct_law_pair : Value}
    {x_law : Addr} {od_law an_law : Option Addr} {sl_law : Array (Option Value)} {oc_law kV_law dc_law pm_law cd_law ct_law : Value}
    {t_SYMBOLS : Addr} {dd_SYMBOLS : Option Addr} {it_SYMBOLS : Array Value} {nn_SYMBOLS : Nat} {ss_SYMBOLS : Array (Option Value)}
    {t_DIGITS : Tok}
    {t_LONGEST_NUMBER : Tok}
    {t_LETTERS : Tok}
    {t_LONGEST_WORD : Tok}
    {t_WORD_CHARACTERS : Tok}
    {t_LINE_ENDS : Addr} {dd_LINE_ENDS : Option Addr} {it_LINE_ENDS : Array Value} {nn_LINE_ENDS : Nat} {ss_LINE_ENDS : Array (Option Value)}
    {t_NO_SPACE_AHEAD : Addr} {dd_NO_SPACE_AHEAD : Option Addr} {it_NO_SPACE_AHEAD : Array Value} {nn_NO_SPACE_AHEAD : Nat} {ss_NO_SPACE_AHEAD : Array (Option Value)}
    {t_NO_SPACE_BEHIND : Addr} {dd_NO_SPACE_BEHIND : Option Addr} {it_NO_SPACE_BEHIND : Array Value} {nn_NO_SPACE_BEHIND : Nat} {ss_NO_SPACE_BEHIND : Array (Option Value)}
    (a_read_signs : PySem.W.nsIn K mainGlobals "read_signs" = some (some (.ref x_read_signs))) (l_read_signs : K.lookup x_read_signs = some ⟨oc_read_signs, od_read_signs, .func (PySem.W.fnOf "read_signs" "read_signs" (defArgs s_read_signs) (defBody s_read_signs) (defScope s_read_signs) .none kV_read_signs dc_read_signs pm_read_signs an_read_signs cd_read_signs ct_read_signs), sl_read_signs⟩) (c_read_signs : PySem.W.codeIn K cd_read_signs "read_signs" = true) (k_read_signs : PySem.W.keepIn K (.ref x_read_signs) = true)
    (a_sign_at : PySem.W.nsIn K mainGlobals "sign_at" = some (some (.ref x_sign_at))) (l_sign_at : K.lookup x_sign_at = some ⟨oc_sign_at, od_sign_at, .func (PySem.W.fnOf "sign_at" "sign_at" (defArgs s_sign_at) (defBody s_sign_at) (defScope s_sign_at) .none kV_sign_at dc_sign_at pm_sign_at an_sign_at cd_sign_at ct_sign_at), sl_sign_at⟩) (c_sign_at : PySem.W.codeIn K cd_sign_at "sign_at" = true) (k_sign_at : PySem.W.keepIn K (.ref x_sign_at) = true)
    (a_run_length : PySem.W.nsIn K mainGlobals "run_length" = some (some (.ref x_run_length))) (l_run_length : K.lookup x_run_length = some ⟨oc_run_length, od_run_length, .func (PySem.W.fnOf "run_length" "run_length" (defArgs s_run_length) (defBody s_run_length) (defScope s_run_length) .none kV_run_length dc_run_length pm_run_length an_run_length cd_run_length ct_run_length), sl_run_length⟩) (c_run_length : PySem.W.codeIn K cd_run_length "run_length" = true) (k_run_length : PySem.W.keepIn K (.ref x_run_length) = true)
    (a_write_signs : PySem.W.nsIn K mainGlobals "write_signs" = some (some (.ref x_write_signs))) (l_write_signs : K.lookup x_write_signs = some ⟨oc_write_signs, od_write_signs, .func (PySem.W.fnOf "write_signs" "write_signs" (defArgs s_write_signs) (defBody s_write_signs) (defScope s_write_signs) .none kV_write_signs dc_write_signs pm_write_signs an_write_signs cd_write_signs ct_write_signs), sl_write_signs⟩) (c_write_signs : PySem.W.codeIn K cd_write_signs "write_signs" = true) (k_write_signs : PySem.W.keepIn K (.ref x_write_signs) = true)
    (a_end_of : PySem.W.nsIn K mainGlobals "end_of" = some (some (.ref x_end_of))) (l_end_of : K.lookup x_end_of = some ⟨oc_end_of, od_end_of, .func (PySem.W.fnOf "end_of" "end_of" (defArgs s_end_of) (defBody s_end_of) (defScope s_end_of) .none kV_end_of dc_end_of pm_end_of an_end_of cd_end_of ct_end_of), sl_end_of⟩) (c_end_of : PySem.W.codeIn K cd_end_of "end_of" = true) (k_end_of : PySem.W.keepIn K (.ref x_end_of) = true)
    (a_law_cell : PySem.W.nsIn K mainGlobals "_law_cell" = some (some (.ref x_law_cell))) (l_law_cell : K.lookup x_law_cell = some ⟨oc_law_cell, od_law_cell, .func (PySem.W.fnOf "_law_cell" "_law_cell" (defArgs s_law_cell) (defBody s_law_cell) (defScope s_law_cell) .none kV_law_cell dc_law_cell pm_law_cell an_law_cell cd_law_cell ct_law_cell), sl_law_cell⟩) (c_law_cell : PySem.W.codeIn K cd_law_cell "_law_cell" = true) (k_law_cell : PySem.W.keepIn K (.ref x_law_cell) = true)
    (a_law_draws : PySem.W.nsIn K mainGlobals "_law_draws" = some (some (.ref x_law_draws))) (l_law_draws : K.lookup x_law_draws = some ⟨oc_law_draws, od_law_draws, .func (PySem.W.fnOf "_law_draws" "_law_draws" (defArgs s_law_draws) (defBody s_law_draws) (defScope s_law_draws) .none kV_law_draws dc_law_draws pm_law_draws an_law_draws cd_law_draws ct_law_draws), sl_law_draws⟩) (c_law_draws : PySem.W.codeIn K cd_law_draws "_law_draws" = true) (k_law_draws : PySem.W.keepIn K (.ref x_law_draws) = true)
    (a_law_stream : PySem.W.nsIn K mainGlobals "_law_stream" = some (some (.ref x_law_stream))) (l_law_stream : K.lookup x_law_stream = some ⟨oc_law_stream, od_law_stream, .func (PySem.W.fnOf "_law_stream" "_law_stream" (defArgs s_law_stream) (defBody s_law_stream) (defScope s_law_stream) .none kV_law_stream dc_law_stream pm_law_stream an_law_stream cd_law_stream ct_law_stream), sl_law_stream⟩) (c_law_stream : PySem.W.codeIn K cd_law_stream "_law_stream" = true) (k_law_stream : PySem.W.keepIn K (.ref x_law_stream) = true)
    (a_law_next : PySem.W.nsIn K mainGlobals "_law_next" = some (some (.ref x_law_next))) (l_law_next : K.lookup x_law_next = some ⟨oc_law_next, od_law_next, .func (PySem.W.fnOf "_law_next" "_law_next" (defArgs s_law_next) (defBody s_law_next) (defScope s_law_next) .none kV_law_next dc_law_next pm_law_next an_law_next cd_law_next ct_law_next), sl_law_next⟩) (c_law_next : PySem.W.codeIn K cd_law_next "_law_next" = true) (k_law_next : PySem.W.keepIn K (.ref x_law_next) = true)
    (a_law_word : PySem.W.nsIn K mainGlobals "_law_word" = some (some (.ref x_law_word))) (l_law_word : K.lookup x_law_word = some ⟨oc_law_word, od_law_word, .func (PySem.W.fnOf "_law_word" "_law_word" (defArgs s_law_word) (defBody s_law_word) (defScope s_law_word) .none kV_law_word dc_law_word pm_law_word an_law_word cd_law_word ct_law_word), sl_law_word⟩) (c_law_word : PySem.W.codeIn K cd_law_word "_law_word" = true) (k_law_word : PySem.W.keepIn K (.ref x_law_word) = true)
    (a_law_is_integer : PySem.W.nsIn K mainGlobals "_law_is_integer" = some (some (.ref x_law_is_integer))) (l_law_is_integer : K.lookup x_law_is_integer = some ⟨oc_law_is_integer, od_law_is_integer, .func (PySem.W.fnOf "_law_is_integer" "_law_is_integer" (defArgs s_law_is_integer) (defBody s_law_is_integer) (defScope s_law_is_integer) .none kV_law_is_integer dc_law_is_integer pm_law_is_integer an_law_is_integer cd_law_is_integer ct_law_is_integer), sl_law_is_integer⟩) (c_law_is_integer : PySem.W.codeIn K cd_law_is_integer "_law_is_integer" = true) (k_law_is_integer : PySem.W.keepIn K (.ref x_law_is_integer) = true)
    (a_law_same : PySem.W.nsIn K mainGlobals "_law_same" = some (some (.ref x_law_same))) (l_law_same : K.lookup x_law_same = some ⟨oc_law_same, od_law_same, .func (PySem.W.fnOf "_law_same" "_law_same" (defArgs s_law_same) (defBody s_law_same) (defScope s_law_same) .none kV_law_same dc_law_same pm_law_same an_law_same cd_law_same ct_law_same), sl_law_same⟩) (c_law_same : PySem.W.codeIn K cd_law_same "_law_same" = true) (k_law_same : PySem.W.keepIn K (.ref x_law_same) = true)
    (a_law_pair : PySem.W.nsIn K mainGlobals "_law_pair" = some (some (.ref x_law_pair))) (l_law_pair : K.lookup x_law_pair = some ⟨oc_law_pair, od_law_pair, .func (PySem.W.fnOf "_law_pair" "_law_pair" (defArgs s_law_pair) (defBody s_law_pair) (defScope s_law_pair) .none kV_law_pair dc_law_pair pm_law_pair an_law_pair cd_law_pair ct_law_pair), sl_law_pair⟩) (c_law_pair : PySem.W.codeIn K cd_law_pair "_law_pair" = true) (k_law_pair : PySem.W.keepIn K (.ref x_law_pair) = true)
    (a_law : PySem.W.nsIn K mainGlobals "law" = some (some (.ref x_law))) (l_law : K.lookup x_law = some ⟨oc_law, od_law, .func (PySem.W.fnOf "law" "law" (defArgs s_law) (defBody s_law) (defScope s_law) .none kV_law dc_law pm_law an_law cd_law ct_law), sl_law⟩) (c_law : PySem.W.codeIn K cd_law "law" = true) (k_law : PySem.W.keepIn K (.ref x_law) = true)
    (z_len : PySem.W.nsIn K mainGlobals "len" = some none)
    (z_int : PySem.W.nsIn K mainGlobals "int" = some none)
    (z_max : PySem.W.nsIn K mainGlobals "max" = some none)
    (z_str : PySem.W.nsIn K mainGlobals "str" = some none)
    (z_range : PySem.W.nsIn K mainGlobals "range" = some none)
    (z_abs : PySem.W.nsIn K mainGlobals "abs" = some none)
    (z_isinstance : PySem.W.nsIn K mainGlobals "isinstance" = some none)
    (z_bool : PySem.W.nsIn K mainGlobals "bool" = some none)
    (z_list : PySem.W.nsIn K mainGlobals "list" = some none)
    (z_tuple : PySem.W.nsIn K mainGlobals "tuple" = some none)
    (m_SYMBOLS : PySem.W.nsIn K mainGlobals "SYMBOLS" = some (some (.ref t_SYMBOLS))) (lk_SYMBOLS : K.lookup t_SYMBOLS = some ⟨.type "tuple", dd_SYMBOLS, .seq it_SYMBOLS nn_SYMBOLS, ss_SYMBOLS⟩) (vv_SYMBOLS : Vals [.str "<=", .str ">=", .str "==", .str "||", .str ",", .str ";", .str ":", .str "[", .str "]", .str "(", .str ")", .str "{", .str "}", .str "=", .str "+", .str "-", .str "*", .str "<", .str ">"] it_SYMBOLS.toList)
    (m_DIGITS : PySem.W.nsIn K mainGlobals "DIGITS" = some (some (.str "0123456789" t_DIGITS)))
    (m_LONGEST_NUMBER : PySem.W.nsIn K mainGlobals "LONGEST_NUMBER" = some (some (.int 9 t_LONGEST_NUMBER)))
    (m_LETTERS : PySem.W.nsIn K mainGlobals "LETTERS" = some (some (.str "abcdefghijklmnopqrstuvwxyzABCDEFGHIJKLMNOPQRSTUVWXYZ" t_LETTERS)))
    (m_LONGEST_WORD : PySem.W.nsIn K mainGlobals "LONGEST_WORD" = some (some (.int 20 t_LONGEST_WORD)))
    (m_WORD_CHARACTERS : PySem.W.nsIn K mainGlobals "WORD_CHARACTERS" = some (some (.str "abcdefghijklmnopqrstuvwxyzABCDEFGHIJKLMNOPQRSTUVWXYZ0123456789_" t_WORD_CHARACTERS)))
    (m_LINE_ENDS : PySem.W.nsIn K mainGlobals "LINE_ENDS" = some (some (.ref t_LINE_ENDS))) (lk_LINE_ENDS : K.lookup t_LINE_ENDS = some ⟨.type "tuple", dd_LINE_ENDS, .seq it_LINE_ENDS nn_LINE_ENDS, ss_LINE_ENDS⟩) (vv_LINE_ENDS : Vals [.str ";", .str "{", .str "}", .str "||"] it_LINE_ENDS.toList)
    (m_NO_SPACE_AHEAD : PySem.W.nsIn K mainGlobals "NO_SPACE_AHEAD" = some (some (.ref t_NO_SPACE_AHEAD))) (lk_NO_SPACE_AHEAD : K.lookup t_NO_SPACE_AHEAD = some ⟨.type "tuple", dd_NO_SPACE_AHEAD, .seq it_NO_SPACE_AHEAD nn_NO_SPACE_AHEAD, ss_NO_SPACE_AHEAD⟩) (vv_NO_SPACE_AHEAD : Vals [.str ",", .str ";", .str ":", .str "[", .str "]", .str "(", .str ")"] it_NO_SPACE_AHEAD.toList)
    (m_NO_SPACE_BEHIND : PySem.W.nsIn K mainGlobals "NO_SPACE_BEHIND" = some (some (.ref t_NO_SPACE_BEHIND))) (lk_NO_SPACE_BEHIND : K.lookup t_NO_SPACE_BEHIND = some ⟨.type "tuple", dd_NO_SPACE_BEHIND, .seq it_NO_SPACE_BEHIND nn_NO_SPACE_BEHIND, ss_NO_SPACE_BEHIND⟩) (vv_NO_SPACE_BEHIND : Vals [.str "[", .str "("] it_NO_SPACE_BEHIND.toList) :
    ∃ A : Ad, Txt K mg A ∧ A.f_law = fa ∧ (∀ (s : Shared) (v : Value), BindsTo s A.d_law ⟨[v], []⟩ [("script", v)]) := by
  have e := hfa.symm.trans (PySem.W.mg_of X G a_law)
  cases e
  have F_read_signs := fun_mk (st := s_read_signs) l_read_signs c_read_signs k_read_signs
  have B_read_signs := F_read_signs.binds (ps := ["text"]) fun _ _ _ _ _ _ us hl => match us, hl with | [_], _ => rfl
  have F_sign_at := fun_mk (st := s_sign_at) l_sign_at c_sign_at k_sign_at
  have B_sign_at := F_sign_at.binds (ps := ["text", "at", "line", "column"]) fun _ _ _ _ _ _ us hl => match us, hl with | [_, _, _, _], _ => rfl
  have F_run_length := fun_mk (st := s_run_length) l_run_length c_run_length k_run_length
  have B_run_length := F_run_length.binds (ps := ["text", "at", "characters"]) fun _ _ _ _ _ _ us hl => match us, hl with | [_, _, _], _ => rfl
  have F_write_signs := fun_mk (st := s_write_signs) l_write_signs c_write_signs k_write_signs
  have B_write_signs := F_write_signs.binds (ps := ["signs"]) fun _ _ _ _ _ _ us hl => match us, hl with | [_], _ => rfl
  have F_end_of := fun_mk (st := s_end_of) l_end_of c_end_of k_end_of
  have B_end_of := F_end_of.binds (ps := ["text"]) fun _ _ _ _ _ _ us hl => match us, hl with | [_], _ => rfl
  have F_law_cell := fun_mk (st := s_law_cell) l_law_cell c_law_cell k_law_cell
  have B_law_cell := F_law_cell.binds (ps := ["script", "k"]) fun _ _ _ _ _ _ us hl => match us, hl with | [_, _], _ => rfl
  have F_law_draws := fun_mk (st := s_law_draws) l_law_draws c_law_draws k_law_draws
  have B_law_draws := F_law_draws.binds (ps := ["cell", "count"]) fun _ _ _ _ _ _ us hl => match us, hl with | [_, _], _ => rfl
  have F_law_stream := fun_mk (st := s_law_stream) l_law_stream c_law_stream k_law_stream
  have B_law_stream := F_law_stream.binds (ps := ["script", "first", "count"]) fun _ _ _ _ _ _ us hl => match us, hl with | [_, _, _], _ => rfl
  have F_law_next := fun_mk (st := s_law_next) l_law_next c_law_next k_law_next
  have B_law_next := F_law_next.binds (ps := ["stream", "many"]) fun _ _ _ _ _ _ us hl => match us, hl with | [_, _], _ => rfl
  have F_law_word := fun_mk (st := s_law_word) l_law_word c_law_word k_law_word
  have B_law_word := F_law_word.binds (ps := ["stream", "index"]) fun _ _ _ _ _ _ us hl => match us, hl with | [_, _], _ => rfl
  have F_law_is_integer := fun_mk (st := s_law_is_integer) l_law_is_integer c_law_is_integer k_law_is_integer
  have B_law_is_integer := F_law_is_integer.binds (ps := ["actual"]) fun _ _ _ _ _ _ us hl => match us, hl with | [_], _ => rfl
  have F_law_same := fun_mk (st := s_law_same) l_law_same c_law_same k_law_same
  have B_law_same := F_law_same.binds (ps := ["actual", "expected"]) fun _ _ _ _ _ _ us hl => match us, hl with | [_, _], _ => rfl
  have F_law_pair := fun_mk (st := s_law_pair) l_law_pair c_law_pair k_law_pair
  have B_law_pair := F_law_pair.binds (ps := ["stream"]) fun _ _ _ _ _ _ us hl => match us, hl with | [_], _ => rfl
  have F_law := fun_mk (st := s_law) l_law c_law k_law
  have B_law := F_law.binds (ps := ["script"]) fun _ _ _ _ _ _ us hl => match us, hl with | [_], _ => rfl
  exact ⟨{ f_read_signs := x_read_signs, f_sign_at := x_sign_at, f_run_length := x_run_length, f_write_signs := x_write_signs, f_end_of := x_end_of, f_law_cell := x_law_cell, f_law_draws := x_law_draws, f_law_stream := x_law_stream, f_law_next := x_law_next, f_law_word := x_law_word, f_law_is_integer := x_law_is_integer, f_law_same := x_law_same, f_law_pair := x_law_pair, f_law := fa, d_read_signs := PySem.W.fnOf "read_signs" "read_signs" (defArgs s_read_signs) (defBody s_read_signs) (defScope s_read_signs) .none kV_read_signs dc_read_signs pm_read_signs an_read_signs cd_read_signs ct_read_signs, d_sign_at := PySem.W.fnOf "sign_at" "sign_at" (defArgs s_sign_at) (defBody s_sign_at) (defScope s_sign_at) .none kV_sign_at dc_sign_at pm_sign_at an_sign_at cd_sign_at ct_sign_at, d_run_length := PySem.W.fnOf "run_length" "run_length" (defArgs s_run_length) (defBody s_run_length) (defScope s_run_length) .none kV_run_length dc_run_length pm_run_length an_run_length cd_run_length ct_run_length, d_write_signs := PySem.W.fnOf "write_signs" "write_signs" (defArgs s_write_signs) (defBody s_write_signs) (defScope s_write_signs) .none kV_write_signs dc_write_signs pm_write_signs an_write_signs cd_write_signs ct_write_signs, d_end_of := PySem.W.fnOf "end_of" "end_of" (defArgs s_end_of) (defBody s_end_of) (defScope s_end_of) .none kV_end_of dc_end_of pm_end_of an_end_of cd_end_of ct_end_of, d_law_cell := PySem.W.fnOf "_law_cell" "_law_cell" (defArgs s_law_cell) (defBody s_law_cell) (defScope s_law_cell) .none kV_law_cell dc_law_cell pm_law_cell an_law_cell cd_law_cell ct_law_cell, d_law_draws := PySem.W.fnOf "_law_draws" "_law_draws" (defArgs s_law_draws) (defBody s_law_draws) (defScope s_law_draws) .none kV_law_draws dc_law_draws pm_law_draws an_law_draws cd_law_draws ct_law_draws, d_law_stream := PySem.W.fnOf "_law_stream" "_law_stream" (defArgs s_law_stream) (defBody s_law_stream) (defScope s_law_stream) .none kV_law_stream dc_law_stream pm_law_stream an_law_stream cd_law_stream ct_law_stream, d_law_next := PySem.W.fnOf "_law_next" "_law_next" (defArgs s_law_next) (defBody s_law_next) (defScope s_law_next) .none kV_law_next dc_law_next pm_law_next an_law_next cd_law_next ct_law_next, d_law_word := PySem.W.fnOf "_law_word" "_law_word" (defArgs s_law_word) (defBody s_law_word) (defScope s_law_word) .none kV_law_word dc_law_word pm_law_word an_law_word cd_law_word ct_law_word, d_law_is_integer := PySem.W.fnOf "_law_is_integer" "_law_is_integer" (defArgs s_law_is_integer) (defBody s_law_is_integer) (defScope s_law_is_integer) .none kV_law_is_integer dc_law_is_integer pm_law_is_integer an_law_is_integer cd_law_is_integer ct_law_is_integer, d_law_same := PySem.W.fnOf "_law_same" "_law_same" (defArgs s_law_same) (defBody s_law_same) (defScope s_law_same) .none kV_law_same dc_law_same pm_law_same an_law_same cd_law_same ct_law_same, d_law_pair := PySem.W.fnOf "_law_pair" "_law_pair" (defArgs s_law_pair) (defBody s_law_pair) (defScope s_law_pair) .none kV_law_pair dc_law_pair pm_law_pair an_law_pair cd_law_pair ct_law_pair, d_law := PySem.W.fnOf "law" "law" (defArgs s_law) (defBody s_law) (defScope s_law) .none kV_law dc_law pm_law an_law cd_law ct_law, t_SYMBOLS := t_SYMBOLS, t_DIGITS := t_DIGITS, t_LONGEST_NUMBER := t_LONGEST_NUMBER, t_LETTERS := t_LETTERS, t_LONGEST_WORD := t_LONGEST_WORD, t_WORD_CHARACTERS := t_WORD_CHARACTERS, t_LINE_ENDS := t_LINE_ENDS, t_NO_SPACE_AHEAD := t_NO_SPACE_AHEAD, t_NO_SPACE_BEHIND := t_NO_SPACE_BEHIND },
   { b_len := PySem.W.mg_none_of X G z_len, b_int := PySem.W.mg_none_of X G z_int, b_max := PySem.W.mg_none_of X G z_max, b_str := PySem.W.mg_none_of X G z_str, b_range := PySem.W.mg_none_of X G z_range, b_abs := PySem.W.mg_none_of X G z_abs, b_isinstance := PySem.W.mg_none_of X G z_isinstance, b_bool := PySem.W.mg_none_of X G z_bool, b_list := PySem.W.mg_none_of X G z_list, b_tuple := PySem.W.mg_none_of X G z_tuple, g_read_signs := PySem.W.mg_of X G a_read_signs, F_read_signs := F_read_signs, B_read_signs := B_read_signs, g_sign_at := PySem.W.mg_of X G a_sign_at, F_sign_at := F_sign_at, B_sign_at := B_sign_at, g_run_length := PySem.W.mg_of X G a_run_length, F_run_length := F_run_length, B_run_length := B_run_length, g_write_signs := PySem.W.mg_of X G a_write_signs, F_write_signs := F_write_signs, B_write_signs := B_write_signs, g_end_of := PySem.W.mg_of X G a_end_of, F_end_of := F_end_of, B_end_of := B_end_of, g_law_cell := PySem.W.mg_of X G a_law_cell, F_law_cell := F_law_cell, B_law_cell := B_law_cell, g_law_draws := PySem.W.mg_of X G a_law_draws, F_law_draws := F_law_draws, B_law_draws := B_law_draws, g_law_stream := PySem.W.mg_of X G a_law_stream, F_law_stream := F_law_stream, B_law_stream := B_law_stream, g_law_next := PySem.W.mg_of X G a_law_next, F_law_next := F_law_next, B_law_next := B_law_next, g_law_word := PySem.W.mg_of X G a_law_word, F_law_word := F_law_word, B_law_word := B_law_word, g_law_is_integer := PySem.W.mg_of X G a_law_is_integer, F_law_is_integer := F_law_is_integer, B_law_is_integer := B_law_is_integer, g_law_same := PySem.W.mg_of X G a_law_same, F_law_same := F_law_same, B_law_same := B_law_same, g_law_pair := PySem.W.mg_of X G a_law_pair, F_law_pair := F_law_pair, B_law_pair := B_law_pair, g_law := PySem.W.mg_of X G a_law, F_law := F_law, B_law := B_law, g_SYMBOLS := PySem.W.mg_of X G m_SYMBOLS, q_SYMBOLS := fun H => .inr ⟨_, _, _, lk_SYMBOLS, rfl, rfl, (by have e := vv_SYMBOLS.length; simp only [Array.length_toList, List.length_cons, List.length_nil] at e; rw [← e]; decide), vv_SYMBOLS⟩, g_DIGITS := PySem.W.mg_of X G m_DIGITS, g_LONGEST_NUMBER := PySem.W.mg_of X G m_LONGEST_NUMBER, g_LETTERS := PySem.W.mg_of X G m_LETTERS, g_LONGEST_WORD := PySem.W.mg_of X G m_LONGEST_WORD, g_WORD_CHARACTERS := PySem.W.mg_of X G m_WORD_CHARACTERS, g_LINE_ENDS := PySem.W.mg_of X G m_LINE_ENDS, q_LINE_ENDS := fun H => .inr ⟨_, _, _, lk_LINE_ENDS, rfl, rfl, (by have e := vv_LINE_ENDS.length; simp only [Array.length_toList, List.length_cons, List.length_nil] at e; rw [← e]; decide), vv_LINE_ENDS⟩, g_NO_SPACE_AHEAD := PySem.W.mg_of X G m_NO_SPACE_AHEAD, q_NO_SPACE_AHEAD := fun H => .inr ⟨_, _, _, lk_NO_SPACE_AHEAD, rfl, rfl, (by have e := vv_NO_SPACE_AHEAD.length; simp only [Array.length_toList, List.length_cons, List.length_nil] at e; rw [← e]; decide), vv_NO_SPACE_AHEAD⟩, g_NO_SPACE_BEHIND := PySem.W.mg_of X G m_NO_SPACE_BEHIND, q_NO_SPACE_BEHIND := fun H => .inr ⟨_, _, _, lk_NO_SPACE_BEHIND, rfl, rfl, (by have e := vv_NO_SPACE_BEHIND.length; simp only [Array.length_toList, List.length_cons, List.length_nil] at e; rw [← e]; decide), vv_NO_SPACE_BEHIND⟩ }, rfl, fun s v => .of_eq rfl⟩
end
end K3
open PySem PySem.W PyProof.Rows in
set_option maxRecDepth 100000 in
set_option maxHeartbeats 0 in
theorem PySem.Challenge.cw_loopworks_k03_whole_signs_read_back_holds : PySem.Challenge.rw_loopworks_k03_whole_signs_read_back.Holds := by
  w_on; o_law; k_head; (case hw => w_witness2)
  k_fill
  refine L2.walk_ofB (l := PySem.Challenge.rw_loopworks_k03_whole_signs_read_back) (n := 63) (k := 4) (x := "script") (CX := fun _ => L2.CX0) (sp := fun w => K3.sp_law _) rfl (by decide) rfl ⟨rfl, by decide, by decide⟩ (fun w h Y => PySem.W.kIn_of Y) ?F (fun _ H a ns hl hb hO hS => K3.sp_law_of hl hb hO hS) (fun _ _ _ _ _ h => h)
  case F =>
    intro w mg fa h KX G hmg
    obtain ⟨A, T, e, hb⟩ : ∃ A : K3.Ad, K3.Txt _ mg A ∧ A.f_law = fa ∧ (∀ (s : Shared) (v : Value), BindsTo s A.d_law ⟨[v], []⟩ [("script", v)]) := by
      refine' K3.all_mk KX G hmg ?a_read_signs ?l_read_signs ?c_read_signs ?k_read_signs ?a_sign_at ?l_sign_at ?c_sign_at ?k_sign_at ?a_run_length ?l_run_length ?c_run_length ?k_run_length ?a_write_signs ?l_write_signs ?c_write_signs ?k_write_signs ?a_end_of ?l_end_of ?c_end_of ?k_end_of ?a_law_cell ?l_law_cell ?c_law_cell ?k_law_cell ?a_law_draws ?l_law_draws ?c_law_draws ?k_law_draws ?a_law_stream ?l_law_stream ?c_law_stream ?k_law_stream ?a_law_next ?l_law_next ?c_law_next ?k_law_next ?a_law_word ?l_law_word ?c_law_word ?k_law_word ?a_law_is_integer ?l_law_is_integer ?c_law_is_integer ?k_law_is_integer ?a_law_same ?l_law_same ?c_law_same ?k_law_same ?a_law_pair ?l_law_pair ?c_law_pair ?k_law_pair ?a_law ?l_law ?c_law ?k_law ?z_len ?z_int ?z_max ?z_str ?z_range ?z_abs ?z_isinstance ?z_bool ?z_list ?z_tuple ?m_SYMBOLS ?lk_SYMBOLS ?vv_SYMBOLS ?m_DIGITS ?m_LONGEST_NUMBER ?m_LETTERS ?m_LONGEST_WORD ?m_WORD_CHARACTERS ?m_LINE_ENDS ?lk_LINE_ENDS ?vv_LINE_ENDS ?m_NO_SPACE_AHEAD ?lk_NO_SPACE_AHEAD ?vv_NO_SPACE_AHEAD ?m_NO_SPACE_BEHIND ?lk_NO_SPACE_BEHIND ?vv_NO_SPACE_BEHIND
      (case a_read_signs => k_is)
      (case l_read_signs => k_is)
      (case c_read_signs => k_is)
      (case k_read_signs => k_is)
      (case a_sign_at => k_is)
      (case l_sign_at => k_is)
      (case c_sign_at => k_is)
      (case k_sign_at => k_is)
      (case a_run_length => k_is)
      (case l_run_length => k_is)
      (case c_run_length => k_is)
      (case k_run_length => k_is)
      (case a_write_signs => k_is)
      (case l_write_signs => k_is)
      (case c_write_signs => k_is)
      (case k_write_signs => k_is)
      (case a_end_of => k_is)
      (case l_end_of => k_is)
      (case c_end_of => k_is)
      (case k_end_of => k_is)
      (case a_law_cell => k_is)
      (case l_law_cell => k_is)
      (case c_law_cell => k_is)
      (case k_law_cell => k_is)
      (case a_law_draws => k_is)
      (case l_law_draws => k_is)
      (case c_law_draws => k_is)
      (case k_law_draws => k_is)
      (case a_law_stream => k_is)
      (case l_law_stream => k_is)
      (case c_law_stream => k_is)
      (case k_law_stream => k_is)
      (case a_law_next => k_is)
      (case l_law_next => k_is)
      (case c_law_next => k_is)
      (case k_law_next => k_is)
      (case a_law_word => k_is)
      (case l_law_word => k_is)
      (case c_law_word => k_is)
      (case k_law_word => k_is)
      (case a_law_is_integer => k_is)
      (case l_law_is_integer => k_is)
      (case c_law_is_integer => k_is)
      (case k_law_is_integer => k_is)
      (case a_law_same => k_is)
      (case l_law_same => k_is)
      (case c_law_same => k_is)
      (case k_law_same => k_is)
      (case a_law_pair => k_is)
      (case l_law_pair => k_is)
      (case c_law_pair => k_is)
      (case k_law_pair => k_is)
      (case a_law => k_is)
      (case l_law => k_is)
      (case c_law => k_is)
      (case k_law => k_is)
      (case z_len => k_is)
      (case z_int => k_is)
      (case z_max => k_is)
      (case z_str => k_is)
      (case z_range => k_is)
      (case z_abs => k_is)
      (case z_isinstance => k_is)
      (case z_bool => k_is)
      (case z_list => k_is)
      (case z_tuple => k_is)
      (case m_SYMBOLS => k_is)
      (case lk_SYMBOLS => k_is)
      (case vv_SYMBOLS => exact (.cons ⟨_, rfl⟩ (.cons ⟨_, rfl⟩ (.cons ⟨_, rfl⟩ (.cons ⟨_, rfl⟩ (.cons ⟨_, rfl⟩ (.cons ⟨_, rfl⟩ (.cons ⟨_, rfl⟩ (.cons ⟨_, rfl⟩ (.cons ⟨_, rfl⟩ (.cons ⟨_, rfl⟩ (.cons ⟨_, rfl⟩ (.cons ⟨_, rfl⟩ (.cons ⟨_, rfl⟩ (.cons ⟨_, rfl⟩ (.cons ⟨_, rfl⟩ (.cons ⟨_, rfl⟩ (.cons ⟨_, rfl⟩ (.cons ⟨_, rfl⟩ (.cons ⟨_, rfl⟩ .nil))))))))))))))))))))
      (case m_DIGITS => k_is)
      (case m_LONGEST_NUMBER => k_is)
      (case m_LETTERS => k_is)
      (case m_LONGEST_WORD => k_is)
      (case m_WORD_CHARACTERS => k_is)
      (case m_LINE_ENDS => k_is)
      (case lk_LINE_ENDS => k_is)
      (case vv_LINE_ENDS => exact (.cons ⟨_, rfl⟩ (.cons ⟨_, rfl⟩ (.cons ⟨_, rfl⟩ (.cons ⟨_, rfl⟩ .nil)))))
      (case m_NO_SPACE_AHEAD => k_is)
      (case lk_NO_SPACE_AHEAD => k_is)
      (case vv_NO_SPACE_AHEAD => exact (.cons ⟨_, rfl⟩ (.cons ⟨_, rfl⟩ (.cons ⟨_, rfl⟩ (.cons ⟨_, rfl⟩ (.cons ⟨_, rfl⟩ (.cons ⟨_, rfl⟩ (.cons ⟨_, rfl⟩ .nil))))))))
      (case m_NO_SPACE_BEHIND => k_is)
      (case lk_NO_SPACE_BEHIND => k_is)
      (case vv_NO_SPACE_BEHIND => exact (.cons ⟨_, rfl⟩ (.cons ⟨_, rfl⟩ .nil)))
    subst e
    exact ⟨A.d_law, hb, fun base _ _ => K3.ok_law T⟩
