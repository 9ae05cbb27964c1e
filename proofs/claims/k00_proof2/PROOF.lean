import PyProof.Rows.All
import Wide.All
import OpenK.AllK
import Wide.FinOn
import HandS.ForMost
import HandS.Wide
import HandS.WideBits
import HandS.Style
import HandS.TupAny
import HandS.IsInst
import HandS.ExcInit
import HandS.ExcIs
import HandS.TryMany
import HandS.DeepEq
import KE.KExcIs
import HandS.ExcValue
import PyProof.InstEq
import PyProof.NeKinds
import HandS.ExcField
import HandS.WordsExc
import PySem.Challenge.RW_thincoins_k00_errors_keep_their_fields
set_option Elab.async false
set_option linter.all false
set_option maxRecDepth 100000
set_option maxHeartbeats 4000000
namespace U
open PySem PySem.Spec L2
open PyProof.Rows hiding St

/-! ### readings as equations, the head first -/
theorem tVar_0 {v : V} {s : St} {H : Hp} {Q : VK} : tVar 0 (some v :: s) H Q = Q v H :=
  propext ⟨fun ⟨_, h, q⟩ => by cases h; exact q, fun q => ⟨v, rfl, q⟩⟩
theorem tVar_s {i : Nat} {x : Option V} {s : St} {H : Hp} {Q : VK} : tVar (i + 1) (x :: s) H Q = tVar i s H Q := rfl
theorem tC_ap {v : V} {s : St} {H : Hp} {Q : VK} : tC v s H Q = Q v H := rfl
theorem tOp_ap {r : R2} {a b : TE} {s : St} {H : Hp} {Q : VK} : tOp r a b s H Q = a s H fun x H1 => b s H1 fun y H2 => r x y H2 Q := rfl
theorem tUn_ap {r : V → Hp → VK → Prop} {a : TE} {s : St} {H : Hp} {Q : VK} : tUn r a s H Q = a s H fun x H1 => r x H1 Q := rfl
def asB : V → Hp → (Bool → Hp → Prop) → Prop := fun x H Q => match x with
  | .bl k => Q k H
  | _ => False
theorem asB_bl {k : Bool} {H : Hp} {Q : Bool → Hp → Prop} : asB (.bl k) H Q = Q k H := rfl
theorem asB_eq {x : V} {H : Hp} {Q : Bool → Hp → Prop} : (∃ k, x = .bl k ∧ Q k H) = asB x H Q := by
  refine propext ⟨fun ⟨k, e, q⟩ => by subst e; exact q, fun q => ?_⟩
  cases x <;> first | exact ⟨_, rfl, q⟩ | exact q.elim
theorem tTest_ap {t : TE} {s : St} {H : Hp} {Q : Bool → Hp → Prop} : tTest t s H Q = t s H fun x H' => asB x H' Q := by
  show (t s H fun x H' => ∃ k, x = .bl k ∧ Q k H') = _
  refine congrArg (t s H) ?_
  funext x H'
  exact asB_eq
theorem tB_ap {t : TE} {s : St} {H : Hp} {Q : Bool → Hp → Prop} : tB t s H Q = t s H fun x H' => asB x H' Q := tTest_ap
theorem tChain_ap {r r' : R2} {a b c : TE} {s : St} {H : Hp} {Q : VK} : tChain r r' a b c s H Q = a s H fun x H1 => b s H1 fun y H2 => r x y H2 fun z H3 => asB z H3 fun k H4 =>
    if k = true then c s H4 fun w' H5 => r' y w' H5 Q else Q (.bl false) H4 := by
  show (a s H fun x H1 => b s H1 fun y H2 => r x y H2 fun z H3 => ∃ k, z = .bl k ∧ (if k = true then c s H3 fun w' H4 => r' y w' H4 Q else Q (.bl false) H3)) = _
  refine congrArg (a s H) ?_
  funext x H1
  refine congrArg (b s H1) ?_
  funext y H2
  refine congrArg (r x y H2) ?_
  funext z H3
  exact asB_eq (Q := fun k H3 => if k = true then c s H3 fun w' H4 => r' y w' H4 Q else Q (.bl false) H3)
theorem tAnd_ap {t u : TT} {s : St} {H : Hp} {Q : Bool → Hp → Prop} : tAnd t u s H Q = t s H fun c H1 => if c = true then u s H1 Q else Q false H1 := rfl
theorem tOr_ap {t u : TT} {s : St} {H : Hp} {Q : Bool → Hp → Prop} : tOr t u s H Q = t s H fun c H1 => if c = true then Q true H1 else u s H1 Q := rfl
theorem tNot_ap {t : TT} {s : St} {H : Hp} {Q : Bool → Hp → Prop} : tNot t s H Q = t s H fun c H1 => Q (!c) H1 := rfl
theorem tNotV_ap {t : TE} {s : St} {H : Hp} {Q : VK} : tNotV t s H Q = t s H fun x H1 => asB x H1 fun c H2 => Q (.bl (!c)) H2 := by
  show (t s H fun x H1 => ∃ c, x = .bl c ∧ Q (.bl (!c)) H1) = _
  refine congrArg (t s H) ?_
  funext x H1
  exact asB_eq (Q := fun c H2 => Q (.bl (!c)) H2)
theorem tAndV_ap {t u : TE} {s : St} {H : Hp} {Q : VK} : tAndV t u s H Q = t s H fun x H1 => asB x H1 fun c H2 => if c = true then u s H2 Q else Q (.bl false) H2 := by
  show (t s H fun x H1 => ∃ c, x = .bl c ∧ if c = true then u s H1 Q else Q (.bl false) H1) = _
  refine congrArg (t s H) ?_
  funext x H1
  exact asB_eq (Q := fun c H2 => if c = true then u s H2 Q else Q (.bl false) H2)
theorem tOrV_ap {t u : TE} {s : St} {H : Hp} {Q : VK} : tOrV t u s H Q = t s H fun x H1 => asB x H1 fun c H2 => if c = true then Q (.bl true) H2 else u s H2 Q := by
  show (t s H fun x H1 => ∃ c, x = .bl c ∧ if c = true then Q (.bl true) H1 else u s H1 Q) = _
  refine congrArg (t s H) ?_
  funext x H1
  exact asB_eq (Q := fun c H2 => if c = true then Q (.bl true) H2 else u s H2 Q)
theorem tIf_ap {t : TT} {a b : TE} {s : St} {H : Hp} {Q : VK} : tIf t a b s H Q = t s H fun c H1 => if c = true then a s H1 Q else b s H1 Q := rfl
theorem tNil_ap {s : St} {H : Hp} {Q : List V → Hp → Prop} : tNil s H Q = Q [] H := rfl
theorem tCons_ap {a : TE} {r : TA} {s : St} {H : Hp} {Q : List V → Hp → Prop} : tCons a r s H Q = a s H fun x H1 => r s H1 fun xs H2 => Q (x :: xs) H2 := rfl
theorem tTup_ap {t : TA} {s : St} {H : Hp} {Q : VK} : tTup t s H Q = t s H fun xs H1 => xs.length ≤ sizeLine ∧ ∀ p, H1 p = none → Q (.ref p) (upd H1 p (.tup xs)) := rfl
theorem tLst_ap {t : TA} {s : St} {H : Hp} {Q : VK} : tLst t s H Q = t s H fun xs H1 => xs.length ≤ sizeLine ∧ ∀ p, H1 p = none → Q (.ref p) (upd H1 p (.lst xs)) := rfl
theorem tCB_ap {r : List V → Hp → VK → Prop} {t : TA} {s : St} {H : Hp} {Q : VK} : tCB r t s H Q = t s H fun vs H1 => r vs H1 Q := rfl
theorem tCall_ap {sp : Sp} {dvs : List V} {E : XK} {t : TA} {s : St} {H : Hp} {Q : VK} : tCall sp dvs E t s H Q = t s H fun vs H1 => sp (vs ++ dvs) H1 Q E := rfl
theorem tSeq_ap {t u : TS} {D : Ends} {s : St} {H : Hp} : tSeq t u D s H = t { D with nx := u D } s H := rfl
theorem tNext_ap {D : Ends} {s : St} {H : Hp} : tNext D s H = D.nx s H := rfl
theorem tBreak_ap {D : Ends} {s : St} {H : Hp} : tBreak D s H = D.bk s H := rfl
theorem tCont_ap {D : Ends} {s : St} {H : Hp} : tCont D s H = D.ct s H := rfl
theorem tRet_ap {e : TE} {D : Ends} {s : St} {H : Hp} : tRet e D s H = e s H D.rt := rfl
theorem tRetN_ap {D : Ends} {s : St} {H : Hp} : tRetN D s H = D.rt .non H := rfl
theorem tDrop_ap {e : TE} {D : Ends} {s : St} {H : Hp} : tDrop e D s H = e s H fun _ H1 => D.nx s H1 := rfl
theorem tIfS_ap {c : TT} {t u : TS} {D : Ends} {s : St} {H : Hp} : tIfS c t u D s H = c s H fun b H1 => if b = true then t D s H1 else u D s H1 := rfl
theorem tAsg_ap {e : TE} {g : TG} {D : Ends} {s : St} {H : Hp} : tAsg e g D s H = e s H fun x H1 => g x s H1 D.nx := rfl
theorem gName_ap {i : Nat} {v : V} {s : St} {H : Hp} {Q : St → Hp → Prop} : gName i v s H Q = Q (s.set i (some v)) H := rfl
theorem gSub_ap {o i : TE} {t : TSet} {v : V} {s : St} {H : Hp} {Q : St → Hp → Prop} : gSub o i t v s H Q = o s H fun x H1 => i s H1 fun y H2 => t x y v H2 fun H3 => Q s H3 := rfl

/-! ### universal operators, by cases of the values -/
section
variable {X : Cx}
/-- + -/
def catU (x y : V) (H : Hp) (Q : VK) : Option HO → Option HO → Prop
  | some (.lst xs), some (.lst ys) => xs.length + ys.length ≤ sizeLine ∧ ∀ p, H p = none → Q (.ref p) (upd H p (.lst (xs ++ ys)))
  | some (.tup xs), some (.tup ys) => xs.length + ys.length ≤ sizeLine ∧ (xs = [] → Q y H) ∧ (xs ≠ [] → ys = [] → Q x H) ∧ (xs ≠ [] → ys ≠ [] → ∀ p, H p = none → Q (.ref p) (upd H p (.tup (xs ++ ys))))
  | _, _ => False
def rAddU : R2 := fun x y H Q => match x, y with
  | .int i, .int j => Q (.int (i + j)) H
  | .str a, .str b => a.length + b.length ≤ sizeLine ∧ Q (.str (a ++ b)) H
  | .ref a, .ref b => catU (.ref a) (.ref b) H Q (H a) (H b)
  | _, _ => False
theorem op_addU : OpR X (binaryOp .Add) rAddU := by
  intro pins s σ H x y v u Q I rx ry h
  cases x with
  | int i =>
    cases y with
    | int j => exact op_add pins s σ H _ _ v u Q I rx ry ⟨i, j, rfl, rfl, h⟩
    | _ => exact (show False from h).elim
  | str i =>
    cases y with
    | str j => exact op_add_str pins s σ H _ _ v u Q I rx ry ⟨i, j, rfl, rfl, h.1, h.2⟩
    | _ => exact (show False from h).elim
  | ref a =>
    cases y with
    | ref b =>
      have h' : catU (.ref a) (.ref b) H Q (H a) (H b) := h
      cases ea : H a with
      | none =>
        rw [ea] at h'
        exact (show False from h').elim
      | some oa =>
        cases eb : H b with
        | none =>
          rw [ea, eb] at h'
          cases oa <;> exact (show False from h').elim
        | some ob =>
          rw [ea, eb] at h'
          cases oa with
          | lst xs =>
            cases ob with
            | lst ys => exact op_cat pins s σ H _ _ v u Q I rx ry ⟨a, b, xs, ys, rfl, rfl, ea, eb, h'.1, h'.2⟩
            | _ => exact (show False from h').elim
          | tup xs =>
            cases ob with
            | tup ys => exact op_catA pins s σ H _ _ v u Q I rx ry ⟨a, b, xs, ys, rfl, rfl, SqT.of ea, SqT.of eb, h'.1, h'.2.1, h'.2.2.1, h'.2.2.2⟩
            | _ => exact (show False from h').elim
          | _ => exact (show False from h').elim
    | _ => exact (show False from h).elim
  | _ => cases y <;> exact (show False from h).elim
theorem rAddU_l {a b : Addr} {xs ys : List V} {H : Hp} {Q : VK} (ha : H a = some (.lst xs)) (hb : H b = some (.lst ys)) :
    rAddU (.ref a) (.ref b) H Q = (xs.length + ys.length ≤ sizeLine ∧ ∀ p, H p = none → Q (.ref p) (upd H p (.lst (xs ++ ys)))) := by
  show catU (.ref a) (.ref b) H Q (H a) (H b) = _
  rw [ha, hb]
  rfl
def rI2 (C : Int → Int → Prop) (g : Int → Int → V) : R2 := fun x y H Q => match x, y with
  | .int i, .int j => C i j ∧ Q (g i j) H
  | _, _ => False
def rI20 (g : Int → Int → V) : R2 := fun x y H Q => match x, y with
  | .int i, .int j => Q (g i j) H
  | _, _ => False
theorem of_rI {f : Value → Value → Sem Value} {C : Int → Int → Prop} {g : Int → Int → V} (h : OpR X f (rI C g)) : OpR X f (rI2 C g) := by
  intro pins s σ H x y v u Q I rx ry k
  refine h pins s σ H x y v u Q I rx ry ?_
  cases x with
  | int i =>
    cases y with
    | int j => exact ⟨i, j, rfl, rfl, k.1, k.2⟩
    | _ => exact (show False from k).elim
  | _ => cases y <;> exact (show False from k).elim
theorem of_rI0 {f : Value → Value → Sem Value} {g : Int → Int → V} (h : OpR X f (rI0 g)) : OpR X f (rI20 g) := by
  intro pins s σ H x y v u Q I rx ry k
  refine h pins s σ H x y v u Q I rx ry ?_
  cases x with
  | int i =>
    cases y with
    | int j => exact ⟨i, j, rfl, rfl, k⟩
    | _ => exact (show False from k).elim
  | _ => cases y <;> exact (show False from k).elim
theorem rI2_ap {C : Int → Int → Prop} {g : Int → Int → V} {i j : Int} {H : Hp} {Q : VK} : rI2 C g (.int i) (.int j) H Q = (C i j ∧ Q (g i j) H) := rfl
theorem rI20_ap {g : Int → Int → V} {i j : Int} {H : Hp} {Q : VK} : rI20 g (.int i) (.int j) H Q = Q (g i j) H := rfl
theorem rAddU_i {i j : Int} {H : Hp} {Q : VK} : rAddU (.int i) (.int j) H Q = Q (.int (i + j)) H := rfl
theorem rAddU_s {i j : Str} {H : Hp} {Q : VK} : rAddU (.str i) (.str j) H Q = (i.length + j.length ≤ sizeLine ∧ Q (.str (i ++ j)) H) := rfl
theorem op_subU : OpR X (binaryOp .Sub) (rI20 fun i j => .int (i - j)) := of_rI0 op_sub
theorem op_mulU : OpR X (binaryOp .Mult) (rI2 IntMulOk fun i j => .int (i * j)) := of_rI (opI fun _ _ _ _ _ _ _ hc q => mul_int q hc)
theorem op_modU : OpR X (binaryOp .Mod) (rI2 (fun _ j => 0 < j) fun i j => .int (i % j)) := of_rI op_mod
theorem op_fdivU : OpR X (binaryOp .FloorDiv) (rI2 CDivW fun i j => .int (i / j)) := of_rI op_fdivW
def CPowU (i j : Int) : Prop := 0 ≤ j ∧ (Builtin.Int.intBits i : Int) * j ≤ 2 ^ 27
theorem op_powU : OpR X (binaryOp .Pow) (rI2 CPowU fun i j => .int (i ^ j.toNat)) := of_rI (opI fun _ _ _ _ _ _ _ hc q => pow_int hc.1 hc.2 q)
theorem op_ltU : OpR X (compareOp .Lt) (rI20 fun i j => .bl (decide (i < j))) := of_rI0 op_lt
theorem op_leU : OpR X (compareOp .LtE) (rI20 fun i j => .bl (decide (i ≤ j))) := of_rI0 op_le
theorem op_gtU : OpR X (compareOp .Gt) (rI20 fun i j => .bl (decide (j < i))) := of_rI0 op_gt
theorem op_geU : OpR X (compareOp .GtE) (rI20 fun i j => .bl (decide (j ≤ i))) := of_rI0 op_ge
theorem un_negU : UnR X (unaryOp .USub) (rU fun i => .int (-i)) := un_neg
theorem rU_ap {g : Int → V} {i : Int} {H : Hp} {Q : VK} : rU g (.int i) H Q = Q (g i) H :=
  propext ⟨fun ⟨_, e, q⟩ => by cases e; exact q, fun q => ⟨i, rfl, q⟩⟩
/-- an item by its place -/
def ixL (xs : List V) (i : Int) (Q : V → Prop) : Prop := ∃ v, atI xs i = some v ∧ Q v
theorem ixL_of {xs : List V} {i : Int} {v : V} {Q : V → Prop} (h : atI xs i = some v) : ixL xs i Q = Q v :=
  propext ⟨fun ⟨_, e, q⟩ => by rw [h] at e; cases e; exact q, fun q => ⟨v, h, q⟩⟩
theorem at_nat {xs : List V} {j : Nat} {v : V} (h : xs[j]? = some v) : atI xs (j : Int) = some v := atI_nat h
theorem ixL_0 {v : V} {xs : List V} {Q : V → Prop} : ixL (v :: xs) 0 Q = Q v := ixL_of (at_nat (j := 0) rfl)
theorem ixL_1 {a v : V} {xs : List V} {Q : V → Prop} : ixL (a :: v :: xs) 1 Q = Q v := ixL_of (at_nat (j := 1) rfl)
theorem ixL_2 {a b v : V} {xs : List V} {Q : V → Prop} : ixL (a :: b :: v :: xs) 2 Q = Q v := ixL_of (at_nat (j := 2) rfl)
theorem ixL_3 {a b c v : V} {xs : List V} {Q : V → Prop} : ixL (a :: b :: c :: v :: xs) 3 Q = Q v := ixL_of (at_nat (j := 3) rfl)
/-- a[i]: what stands at the address -/
def rIxU : R2 := fun x y H Q => match x, y with
  | .ref p, .int i => (match H p with
      | some (.lst xs) => ixL xs i fun v => Q v H
      | some (.tup xs) => ixL xs i fun v => Q v H
      | _ => False)
  | _, _ => False
theorem rIxU_l {p : Addr} {xs : List V} {i : Int} {H : Hp} {Q : VK} (h : H p = some (.lst xs)) : rIxU (.ref p) (.int i) H Q = ixL xs i fun v => Q v H := by
  show (match H p with
      | some (.lst xs) => ixL xs i fun v => Q v H
      | some (.tup xs) => ixL xs i fun v => Q v H
      | _ => False) = _
  rw [h]
theorem rIxU_t {p : Addr} {xs : List V} {i : Int} {H : Hp} {Q : VK} (h : H p = some (.tup xs)) : rIxU (.ref p) (.int i) H Q = ixL xs i fun v => Q v H := by
  show (match H p with
      | some (.lst xs) => ixL xs i fun v => Q v H
      | some (.tup xs) => ixL xs i fun v => Q v H
      | _ => False) = _
  rw [h]
theorem rIxU_l' {p : Addr} {xs : List V} {i : Int} {H : Hp} {Q : VK} : rIxU (.ref p) (.int i) (upd H p (.lst xs)) Q = ixL xs i fun v => Q v (upd H p (.lst xs)) := rIxU_l upd_same
theorem rIxU_t' {p : Addr} {xs : List V} {i : Int} {H : Hp} {Q : VK} : rIxU (.ref p) (.int i) (upd H p (.tup xs)) Q = ixL xs i fun v => Q v (upd H p (.tup xs)) := rIxU_t upd_same
theorem ix_U : IxR X rIxU := by
  intro value slice pins s σ H x y v u Q I rx ry h hs
  cases x with
  | ref p =>
    cases y with
    | int i =>
      have h' : (match H p with
        | some (.lst xs) => ixL xs i fun v => Q v H
        | some (.tup xs) => ixL xs i fun v => Q v H
        | _ => False) := h
      cases e : H p with
      | none =>
        rw [e] at h'
        exact h'.elim
      | some o =>
        rw [e] at h'
        cases o with
        | lst xs =>
          obtain ⟨z, e1, q⟩ := h'
          exact ix_list value slice pins s σ H _ _ v u Q I rx ry ⟨p, xs, i, z, rfl, rfl, SqL.of e, e1, q⟩ hs
        | tup xs =>
          obtain ⟨z, e1, q⟩ := h'
          exact ix_tup value slice pins s σ H _ _ v u Q I rx ry ⟨p, xs, i, z, rfl, rfl, SqT.of e, e1, q⟩ hs
        | _ => exact (show False from h').elim
    | _ => exact (show False from h).elim
  | _ => cases y <;> exact (show False from h).elim
/-- == and != of scalars -/
theorem rEq_ii {i j : Int} {H : Hp} {Q : VK} : rEq (.int i) (.int j) H Q = Q (.bl (decide (i = j))) H := by
  have e : decide (V.int i = V.int j) = decide (i = j) := by
    rw [dec_int]
    exact Bool.eq_iff_iff.mpr (by simp)
  show (true = true ∧ Q (.bl (decide (V.int i = V.int j))) H) = _
  rw [e]
  exact propext ⟨fun h => h.2, fun h => ⟨rfl, h⟩⟩
theorem rNe_ii {i j : Int} {H : Hp} {Q : VK} : rNe (.int i) (.int j) H Q = Q (.bl (!decide (i = j))) H := by
  have e : decide (V.int i = V.int j) = decide (i = j) := by
    rw [dec_int]
    exact Bool.eq_iff_iff.mpr (by simp)
  show (true = true ∧ Q (.bl (!decide (V.int i = V.int j))) H) = _
  rw [e]
  exact propext ⟨fun h => h.2, fun h => ⟨rfl, h⟩⟩
theorem rEq_bb {i j : Bool} {H : Hp} {Q : VK} : rEq (.bl i) (.bl j) H Q = Q (.bl (i == j)) H := by
  show (true = true ∧ Q (.bl (decide (V.bl i = V.bl j))) H) = _
  rw [dec_bl]
  exact propext ⟨fun h => h.2, fun h => ⟨rfl, h⟩⟩
theorem rNe_bb {i j : Bool} {H : Hp} {Q : VK} : rNe (.bl i) (.bl j) H Q = Q (.bl (!(i == j))) H := by
  show (true = true ∧ Q (.bl (!decide (V.bl i = V.bl j))) H) = _
  rw [dec_bl]
  exact propext ⟨fun h => h.2, fun h => ⟨rfl, h⟩⟩
/-- the builtin int, abs -/
def rIntU : List V → Hp → VK → Prop := fun xs H Q => match xs with
  | [.int i] => Q (.int i) H
  | [.bl k] => Q (.int (if k then 1 else 0)) H
  | _ => False
theorem call_intU : CallR X (.type "int") rIntU := by
  intro pins s σ H xs us Q I r h
  match xs, r, h with
  | [.int i], r, h => exact call_int1 pins s σ H _ us Q I r (.inl ⟨i, rfl, h⟩)
  | [.bl k], r, h => exact call_int1 pins s σ H _ us Q I r (.inr ⟨k, rfl, h⟩)
theorem rIntU_i {i : Int} {H : Hp} {Q : VK} : rIntU [.int i] H Q = Q (.int i) H := rfl
theorem rIntU_b {k : Bool} {H : Hp} {Q : VK} : rIntU [.bl k] H Q = Q (.int (if k then 1 else 0)) H := rfl
def rAbsU : List V → Hp → VK → Prop := fun xs H Q => match xs with
  | [.int i] => Q (.int (i.natAbs : Int)) H
  | _ => False
theorem call_absU : CallR X (.builtin "abs") rAbsU := by
  intro pins s σ H xs us Q I r h
  match xs, r, h with
  | [.int i], r, h =>
    refine call_abs pins s σ H _ us Q I r ⟨i, rfl, ?_⟩
    have e : (if i < 0 then -i else i) = (i.natAbs : Int) := by
      split <;> omega
    rw [e]
    exact h
theorem rAbsU_i {i : Int} {H : Hp} {Q : VK} : rAbsU [.int i] H Q = Q (.int (i.natAbs : Int)) H := rfl
/-- xs[i] = v -/
def rSetU : TSet := fun o i v H Q => match o, i with
  | .ref p, .int k => (match H p with
      | some (.lst xs) => (0 ≤ k ∧ k < (xs.length : Int)) ∧ Q (upd H p (.lst (xs.set k.toNat v)))
      | _ => False)
  | _, _ => False
theorem set_U : PSet X rSetU := by
  intro pins s σ H o i v ov iv u Q I ro ri rv h
  cases o with
  | ref p =>
    cases i with
    | int k =>
      have h' : (match H p with
        | some (.lst xs) => (0 ≤ k ∧ k < (xs.length : Int)) ∧ Q (upd H p (.lst (xs.set k.toNat v)))
        | _ => False) := h
      cases e : H p with
      | none =>
        rw [e] at h'
        exact h'.elim
      | some o =>
        rw [e] at h'
        cases o with
        | lst xs =>
          obtain ⟨⟨h0, h1⟩, q⟩ := h'
          exact set_list pins s σ H _ _ v ov iv u Q I ro ri rv ⟨p, xs, k, k.toNat, rfl, rfl, e, (by unfold ixN; rw [if_pos h0, if_pos h1]), q⟩
        | _ => exact (show False from h').elim
    | _ => exact (show False from h).elim
  | _ => cases i <;> exact (show False from h).elim
def setL (xs : List V) (k : Int) (v : V) (Q : List V → Prop) : Prop := (0 ≤ k ∧ k < (xs.length : Int)) ∧ Q (xs.set k.toNat v)
theorem setL_0 {a v : V} {xs : List V} {Q : List V → Prop} : setL (a :: xs) 0 v Q = Q (v :: xs) := by
  refine propext ⟨fun h => h.2, fun h => ⟨⟨by omega, ?_⟩, h⟩⟩
  rw [List.length_cons]
  omega
theorem setL_1 {a b v : V} {xs : List V} {Q : List V → Prop} : setL (a :: b :: xs) 1 v Q = Q (a :: v :: xs) := by
  refine propext ⟨fun h => h.2, fun h => ⟨⟨by omega, ?_⟩, h⟩⟩
  rw [List.length_cons, List.length_cons]
  omega
theorem setL_2 {a b c v : V} {xs : List V} {Q : List V → Prop} : setL (a :: b :: c :: xs) 2 v Q = Q (a :: b :: v :: xs) := by
  refine propext ⟨fun h => h.2, fun h => ⟨⟨by omega, ?_⟩, h⟩⟩
  rw [List.length_cons, List.length_cons, List.length_cons]
  omega
theorem rSetU_l {p : Addr} {xs : List V} {k : Int} {v : V} {H : Hp} {Q : Hp → Prop} (h : H p = some (.lst xs)) : rSetU (.ref p) (.int k) v H Q = setL xs k v fun ys => Q (upd H p (.lst ys)) := by
  show (match H p with
      | some (.lst xs) => (0 ≤ k ∧ k < (xs.length : Int)) ∧ Q (upd H p (.lst (xs.set k.toNat v)))
      | _ => False) = _
  rw [h]
  rfl
theorem rSetU_l' {p : Addr} {xs : List V} {k : Int} {v : V} {H : Hp} {Q : Hp → Prop} : rSetU (.ref p) (.int k) v (upd H p (.lst xs)) Q = setL xs k v fun ys => Q (upd H p (.lst ys)) := by
  rw [rSetU_l upd_same]
  show setL xs k v (fun ys => Q (upd (upd H p (.lst xs)) p (.lst ys))) = _
  simp only [upd_upd]
end
/-- products of known size -/
theorem mulok_l {i j : Int} (h1 : -(2 ^ 64) < i) (h2 : i < 2 ^ 64) : IntMulOk i j := .of_left (intBits_le_64 h1 h2)
theorem mulok_r {i j : Int} (h1 : -(2 ^ 64) < j) (h2 : j < 2 ^ 64) : IntMulOk i j := .of_right (intBits_le_64 h1 h2)
theorem powok {i j : Int} {k : Nat} (h : i.natAbs < 2 ^ k) (h0 : 0 ≤ j) (h1 : (k : Int) * j ≤ 134217728) : CPowU i j := by
  refine ⟨h0, ?_⟩
  have b := PyProof.Rows.intBits_le h
  have e : (2 : Int) ^ 27 = 134217728 := by decide
  rw [e]
  refine Int.le_trans (Int.mul_le_mul_of_nonneg_right (Int.ofNat_le.mpr b) h0) h1
theorem divok {i j : Int} {k : Nat} (h : 0 < j) (hb : j.natAbs < 2 ^ k) (h0 : 0 < k) (h9 : k ≤ 9000) : CDivW i j := wide_div h hb h0 h9
theorem tPar_ap {i j : Nat} {ta : TA} {D : Ends} {s : St} {H : Hp} : tPar i j ta D s H = ta s H fun vs H1 => ∃ v w, vs = [v, w] ∧ D.nx ((s.set i (some v)).set j (some w)) H1 := rfl
def two : List V → (V → V → Prop) → Prop := fun vs Q => match vs with
  | [v, w] => Q v w
  | _ => False
theorem two_ap {v w : V} {Q : V → V → Prop} : two [v, w] Q = Q v w := rfl
theorem tPar_ap' {i j : Nat} {ta : TA} {D : Ends} {s : St} {H : Hp} : tPar i j ta D s H = ta s H fun vs H1 => two vs fun v w => D.nx ((s.set i (some v)).set j (some w)) H1 := by
  show (ta s H fun vs H1 => ∃ v w, vs = [v, w] ∧ D.nx ((s.set i (some v)).set j (some w)) H1) = _
  refine congrArg (ta s H) ?_
  funext vs H1
  refine propext ⟨fun ⟨v, w, e, q⟩ => by subst e; exact q, fun q => ?_⟩
  match vs, q with
  | [v, w], q => exact ⟨v, w, rfl, q⟩
def three : List V → (V → V → V → Prop) → Prop := fun vs Q => match vs with
  | [u, v, w] => Q u v w
  | _ => False
theorem three_ap {u v w : V} {Q : V → V → V → Prop} : three [u, v, w] Q = Q u v w := rfl
theorem tPar3_ap' {i j l : Nat} {ta : TA} {D : Ends} {s : St} {H : Hp} : tPar3 i j l ta D s H = ta s H fun vs H1 => three vs fun u v w => D.nx (((s.set i (some u)).set j (some v)).set l (some w)) H1 := by
  show (ta s H fun vs H1 => ∃ u v w, vs = [u, v, w] ∧ D.nx (((s.set i (some u)).set j (some v)).set l (some w)) H1) = _
  refine congrArg (ta s H) ?_
  funext vs H1
  refine propext ⟨fun ⟨u, v, w, e, q⟩ => by subst e; exact q, fun q => ?_⟩
  match vs, q with
  | [u, v, w], q => exact ⟨u, v, w, rfl, q⟩
section
variable {X : Cx}
def rStrU : List V → Hp → VK → Prop := fun xs H Q => match xs with
  | [.int i] => i.natAbs.log2 < 1920 ∧ Q (.str (toString i)) H
  | _ => False
theorem call_strU : CallR X (.type "str") rStrU := by
  intro pins s σ H xs us Q I r h
  match xs, r, h with
  | [.int i], r, h => exact call_str_int pins s σ H _ us Q I r ⟨i, rfl, h.1, h.2⟩
theorem rStrU_i {i : Int} {H : Hp} {Q : VK} : rStrU [.int i] H Q = (i.natAbs.log2 < 1920 ∧ Q (.str (toString i)) H) := rfl
end
end U

set_option Elab.async false
set_option linter.all false
set_option maxRecDepth 100000
set_option maxHeartbeats 4000000
/-! an own exception class, called with keywords alone -/
namespace PySem
namespace EKW
open Builtin Builtin.ObjectAttr PySem.HandSPX
section
variable {M : Model} {A : Around} {E : Value → Shared → Prop} {h : Heap} {g : Array GenState} {d : Drawn} {t : Nat} {os : OsState}
variable {nm q : Str} {C N : Addr} {bs bm bmB : List Value} {hdct : Bool} {sn : List Str} {sub : List Value} {ab : Bool} {col : Option Bool} {dd : Option Addr} {k0 k1 k2 k3 k5 : Option Value} {B newId initId : String} {kw : List (Str × Value)}
theorem ck_new (F : ExcBaseFacts B newId initId bmB) (hT : ∀ T : String, bm.contains (.type T) = bmB.contains (.type T)) {Q : Unit → Shared → Prop}
    (hC : h.get? C = some (excClassObj nm q C N bs bm hdct sn sub ab col dd k0 k1 k2 k3 k5 newId)) (hq : Q () ⟨h, g, d, t, os⟩) : wpAny M A (checkBuiltinCall newId ⟨[.ref C], kw⟩) Q E ⟨h, g, d, t, os⟩ := by
  have c1 : (Value.ref C :: bm).contains (.type B) = true := by rw [List.contains_cons, hT, F.hasB, Bool.or_true]
  have c2 := F.noStar
  simp only [checkBuiltinCall, F.newKind, F.newSplit, F.newRow]
  repeat (first | refine wpAny_loadPart_at hC ?_ | (refine wpAny_isSubtype_exc hC ?_; rw [c1]) | refine wpAny_staticBase_exc hC ?_ | refine wpAny_madeBy_exc hC ?_ | simp only [bne_self_eq_false, Bool.false_eq_true, if_false] | wp_step)
  exact hq
theorem ck_call {Q : Unit → Shared → Prop} (hC : h.get? C = some (excClassObj nm q C N bs bm hdct sn sub ab col dd k0 k1 k2 k3 k5 newId))
    (hq : Q () ⟨h, g, d, t, os⟩) : wpAny M A (checkBuiltinCall "type.__call__" ⟨[.ref C], kw⟩) Q E ⟨h, g, d, t, os⟩ := by
  have f3 := tc_sub
  have hy : (⟨h, g, d, t, os⟩ : Shared).TypeIs (.ref C) "type" := ⟨_, hC, rfl⟩
  simp only [checkBuiltinCall, tc_kind, tc_split]
  repeat (any_goals (first | assumption | with_reducible refine wpAny_loadPart_at hC ?_ | with_reducible refine wpAny_onRaise ?_ | with_reducible refine wpAny_map ?_ | wp_step))
end
section
variable {prog : Program} {w : World} {A : Around} {E : Value → Shared → Prop} {R : Result → Shared → Prop} {h : Heap} {g : Array GenState} {d : Drawn} {t : Nat} {os : OsState}
variable {nm q : Str} {C N : Addr} {bs bm bmB : List Value} {hdct : Bool} {sn : List Str} {sub : List Value} {ab : Bool} {col : Option Bool} {dd : Option Addr} {k0 k1 k2 k3 k5 : Option Value} {B newId initId : String} {kw : List (Str × Value)}
theorem made (F : ExcBaseFacts B newId initId bmB) (hT : ∀ T : String, bm.contains (.type T) = bmB.contains (.type T))
    (hC : h.get? C = some (excClassObj nm q C N bs bm hdct sn sub ab col dd k0 k1 k2 k3 k5 newId))
    (hq : R (.ok (.ret (.ref (h.objs.size + 1)))) ⟨(h.push (W.kdv_tup [])).push (excO C h.objs.size), g, d, t, os⟩) :
    codeAny (model prog w) A (.builtin newId ⟨[.ref C], kw⟩) R ⟨h, g, d, t, os⟩ := by
  have e0 := F.ends
  have e1 : (Value.ref C :: bm).contains (.type B) = true := by rw [List.contains_cons, hT, F.hasB, Bool.or_true]
  have e2 : (Value.ref C :: bm).contains (.type "AttributeError") = false := by rw [List.contains_cons, hT, F.noAttr]; rfl
  have e3 : (Value.ref C :: bm).contains (.type "NameError") = false := by rw [List.contains_cons, hT, F.noName]; rfl
  have hrest : ([] : List Value).length ≤ sizeLine := Nat.zero_le _
  refine codeAny_builtinAt F.entry ?_
  unfold Builtin.«BaseException.__new__»
  refine wpAt_bind ?_
  show wpAt _ _ _ (stack >>= _) _ _ _
  refine wpAt_bind (wpAt_stack fun p below => wpAt_of_wpAny ?_)
  wp_walk
  refine wpAt_of_wpAny ?_
  rw [F.owner]
  repeat (first | with_reducible refine wpAny_madeHere_exc F.canon hC ?_ | with_reducible refine wpAny_loadPart_at hC ?_ | (with_reducible refine wpAny_isSubtype_exc hC ?_; first | rw [e1] | rw [e2] | rw [e3]) | wp_step)
  show R _ _
  rw [Heap.size_push]
  exact hq
theorem typed (F : ExcBaseFacts B newId initId bmB) (hT : ∀ T : String, bm.contains (.type T) = bmB.contains (.type T)) {fI : Addr} {Q : Fin → Shared → Prop}
    (hC : h.get? C = some (excClassObj nm q C N bs bm hdct sn sub ab col dd k0 k1 k2 k3 k5 newId))
    (hi : W.Looks (model prog w) h (typeLookup (.ref C) "__init__") (some (.ref fI))) (hb : ∀ self, W.Looks (model prog w) h (bindSpecial (.ref fI) self) (.ref fI, [self]))
    (hq : codeAny (model prog w) A (.call (.ref fI) ⟨[.ref (h.objs.size + 1)], kw⟩)
      (fun r s' => match r with | .ok (.ret v) => v = .none ∧ Q (.done (.ret (.ref (h.objs.size + 1)))) s' | .ok _ => False | .error e => E e s')
      ⟨(h.push (W.kdv_tup [])).push (excO C h.objs.size), g, d, t, os⟩) :
    wpAny (model prog w) A (Builtin.«type.__call__» ⟨[.ref C], kw⟩) Q E ⟨h, g, d, t, os⟩ := by
  repeat (first | with_reducible refine wpAny_loadPart_at hC ?_ | with_reducible refine wpAny_madeBy_exc hC ?_ | wp_step)
  refine codeAny_call_builtin_code (Code.quiet_builtin _ F.quiet) (ck_new F hT hC ?_)
  refine made F hT hC ?_
  show wpAny _ _ _ _ _ _
  have k : ∀ b o, h.get? b = some o → ((h.push (W.kdv_tup [])).push (excO C h.objs.size)).get? b = some o := fun b o e => Heap.get?_push_of_some _ (Heap.get?_push_of_some _ e)
  have z1 := k _ _ hC
  have z2 : ((h.push (W.kdv_tup [])).push (excO C h.objs.size)).get? (h.objs.size + 1) = some (excO C h.objs.size) := by heap_get
  have z3 : (Value.ref C :: bm).contains (.ref C) = true := by simp
  have i1 := hi.keeps k
  have b1 := (hb (.ref (h.objs.size + 1))).keeps k
  unfold isInstance
  repeat (first | with_reducible refine wpAny_loadPart_at z2 ?_ | (with_reducible refine wpAny_isSubtype_exc z1 ?_; rw [z3]) | wp_step)
  show wpAny _ _ (typeLookup (.ref C) _) _ _ _
  refine i1.at ?_
  refine wpAny_holding (wpAny_bind (b1.at ?_))
  refine wpAny_bind (wpAny_call (codeAny_mono hq fun r s' z => ?_))
  rcases r with e | (v | _ | _ | _) <;> first | exact z | exact z.elim | skip
  obtain ⟨rfl, z⟩ := z
  first
    | exact wpAny_pure (wpAny_pure z)
    | (wp_walk; exact z)
theorem call_kw (F : ExcBaseFacts B newId initId bmB) (hT : ∀ T : String, bm.contains (.type T) = bmB.contains (.type T)) {fI : Addr}
    (hC : h.get? C = some (excClassObj nm q C N bs bm hdct sn sub ab col dd k0 k1 k2 k3 k5 newId))
    (hi : W.Looks (model prog w) h (typeLookup (.ref C) "__init__") (some (.ref fI))) (hb : ∀ self, W.Looks (model prog w) h (bindSpecial (.ref fI) self) (.ref fI, [self]))
    (hq : codeAny (model prog w) (A.under (.builtin "type.__call__" ⟨[.ref C], kw⟩)) (.call (.ref fI) ⟨[.ref (h.objs.size + 1)], kw⟩) (W.InitBack (h.objs.size + 1) R)
      ⟨(h.push (W.kdv_tup [])).push (excO C h.objs.size), g, d, t, os⟩) :
    codeAny (model prog w) A (.call (.ref C) ⟨[], kw⟩) R ⟨h, g, d, t, os⟩ := by
  have f1 := tc_lookup
  have f2 := tc_bind (.ref C)
  have hy : (⟨h, g, d, t, os⟩ : Shared).TypeIs (.ref C) "type" := ⟨_, hC, rfl⟩
  refine codeAny_of_tree ?_
  show wpAny _ _ (callAny (.ref C) _) _ _ _
  repeat (any_goals (first | assumption | with_reducible refine wpAny_loadPart_at hC ?_ | wp_step))
  refine ⟨rfl, ?_⟩
  refine codeAny_call_builtin_at (Code.quiet_builtin _ (by decide +kernel)) entry_typeCall (ck_call hC (typed F hT hC hi hb ?_))
  refine codeAny_mono hq fun r s' z => ?_
  rcases r with e | (v | _ | _ | _) <;> exact z
end
end EKW
end PySem

set_option Elab.async false
set_option linter.all false
set_option maxRecDepth 100000
set_option maxHeartbeats 4000000
/-! own exceptions as values -/
namespace U
open PySem PySem.Spec L2
open PyProof.Rows hiding St
/-- what the written part says of an exception class of one's own: made, read, asked for its class -/
structure ExK (K : PySem.W.Frag) (C : Addr) : Prop where
  oex : OexC K C
  ga : PySem.W.findIn K (.ref C) "__getattribute__" = some (some (.builtin "BaseException.__getattribute__"))
  gt : PySem.W.findIn K (.ref C) "__getattr__" = some none
  hd : PySem.W.hasDictIn K C = true
  cl : PySem.W.findIn K (.ref C) "__class__" = some (some (.builtin "object.__class__"))
  cn : PySem.W.specialIn K (.builtin "object.__class__") "__get__" = some (some (.builtin "getset_descriptor.__get__"))
  ct : PySem.W.takesIn K (.builtin "object.__class__") = some true
  cm : PySem.W.mroIn K C (.type "object") = some true
/-- an exception of the class at C stands at a with these fields -/
def ErrAt (H : Hp) (a C : Addr) (fs : List (Str × V)) : Prop := ∃ d, H a = some (exo a C (some d)) ∧ H d = some (exd d fs)
/-- .. with a dict of its own that is new against H -/
def ErrNew (H H' : Hp) (a C : Addr) (fs : List (Str × V)) : Prop := ∃ d, H d = none ∧ H' a = some (exo a C (some d)) ∧ H' d = some (exd d fs)
theorem ErrNew.at {H H' : Hp} {a C : Addr} {fs : List (Str × V)} (h : ErrNew H H' a C fs) : ErrAt H' a C fs := by
  obtain ⟨d, _, h1, h2⟩ := h
  exact ⟨d, h1, h2⟩
theorem ErrAt.keep {H H' : Hp} {a C : Addr} {fs : List (Str × V)} (h : ErrAt H a C fs) (s : Same H H') : ErrAt H' a C fs := by
  obtain ⟨d, h1, h2⟩ := h
  exact ⟨d, s _ _ h1, s _ _ h2⟩
section
variable {X : Cx} {o e : Expr} {es : List Expr} {to te : TE} {ta tk : TA} {f : Str} {p pos : Pos}
/-- e.f of such -/
def tErF (K : PySem.W.Frag) (f : Str) (te : TE) : TE := fun σ H Q => te σ H fun x H1 => ∃ a C fs v, x = .ref a ∧ ErrAt H1 a C fs ∧ ExK K C ∧ PySem.W.findIn K (.ref C) f = some none ∧ fs.lookup f = some v ∧ Q v H1
theorem pe_erF (he : PE X e te) (hb : attributeBase e f X.env (eval e X.env) = eval e X.env := by rfl) : PE X (.Attribute e f pos) (tErF X.K f te) := by
  refine ⟨fun pins s σ H Q I h => ?_⟩
  refine attr_of hb (thn (he.run pins s σ H _ I h) fun u s1 hh => ?_)
  obtain ⟨x, H1, I1, rx, a, C, fs, v, ex, ⟨d, ea, ed⟩, T, hno, hl, q⟩ := hh
  subst ex
  obtain rfl : u = Value.ref a := rx
  obtain ⟨t1, ho⟩ := exo_at I1.hok ea
  obtain ⟨mA, hns, hr⟩ := exd_at I1.hok ed
  obtain ⟨od, hod, hlk⟩ := lookIn_ns hns
  obtain ⟨u, hu, ru⟩ := RelO.some_of (v := v) (o := mA f) (by rw [← hl]; exact hr f)
  have J : PySem.W.InstAt s1.heap a { cls := .ref C, dict := some d, data := .fields #[.ref t1, .none, .none, .none, .bool false, .none] } C (some od) := ⟨ho, rfl, rfl, hod⟩
  exact PySem.HandSPX.exc_get I1.kIn J T.ga T.gt T.oex.exC (PySem.W.findObj_own T.hd hno rfl (by rw [hlk, hu])) (handed_of ru) ⟨v, H1, I1.tok _, ru, q⟩
/-- isinstance(x, c) of such, of None and of data -/
def TyE (K : PySem.W.Frag) (H : Hp) (x : V) (t : Value) : Prop := TyX K H x t ∨ ∃ a C fs, x = .ref a ∧ t = .ref C ∧ ExK K C ∧ (ErrAt H a C fs ∨ H a = some (exo a C none))
def rIsE' (K : PySem.W.Frag) : List V → Hp → VK → Prop := fun xs H Q => ∃ (x c : V) (t u : Value) (b : Bool), xs = [x, c] ∧ ClsV c u ∧ TyE K H x t ∧ PySem.W.kitOne K t u = some b ∧ Q (.bl b) H
theorem kitE {pins : List (Addr × Obj)} {σ : St} {H : Hp} {s : Shared} {x : V} {u t : Value} (I : Inv X pins σ H s) (rx : RelV x u) (ty : TyE X.K H x t) : ∃ P : Heap → Prop, PySem.W.KitX X.K u t P ∧ P s.heap ∧ u ≠ .builtin "__main__.__loader__#opaque" := by
  rcases ty with ty | ⟨a, C, fs, rfl, rfl, T, h⟩
  · exact kit_of I rx ty
  · cases (show u = Value.ref a from rx)
    have hc : (PySem.W.clsIn X.K C).isSome = true := by
      obtain ⟨cd, q, _⟩ := PySem.W.any_some T.hd
      rw [q]
      rfl
    rcases h with ⟨d, ea, ed⟩ | ea
    · obtain ⟨t1, ho⟩ := exo_at I.hok ea
      obtain ⟨mA, hns, hr⟩ := exd_at I.hok ed
      obtain ⟨od, hod, hlk⟩ := lookIn_ns hns
      exact ⟨_, PySem.W.kitx_exc (od := some od) hc T.ga T.gt T.oex.exC T.cl T.cn T.ct T.cm, ⟨ho, rfl, rfl, hod⟩, fun z => nomatch z⟩
    · obtain ⟨t1, ho⟩ := exo_at I.hok ea
      exact ⟨_, PySem.W.kitx_exc (od := none) hc T.ga T.gt T.oex.exC T.cl T.cn T.ct T.cm, ⟨ho, rfl, rfl, trivial⟩, fun z => nomatch z⟩
theorem call_isE' : CallR X (.builtin "isinstance") (rIsE' X.K) := by
  intro pins s σ H xs us Q I r h
  obtain ⟨x, c, t, u, b, rfl, k, ty, e, q⟩ := h
  obtain ⟨u1, u2, rfl, r1, r2⟩ := vals2 r
  have e2 := k.eq r2
  subst e2
  obtain ⟨P, Z, p, hx⟩ := kitE I r1 ty
  exact PySem.W.kia_one Z I.kIn p e hx fun tk => ⟨.bl b, H, I.tok tk, rfl, q⟩
/-- isinstance(x, (c1, c2, ..)) -/
def rIsTE (K : PySem.W.Frag) : List V → Hp → VK → Prop := fun xs H Q => ∃ (x : V) (tp : Addr) (cs : List V) (t : Value) (us : List Value) (b : Bool), xs = [x, .ref tp] ∧ H tp = some (.tup cs) ∧ Paired ClsV cs us ∧ TyE K H x t ∧ PySem.W.kitAny K t us = some b ∧ Q (.bl b) H
theorem call_isTE : CallR X (.builtin "isinstance") (rIsTE X.K) := by
  intro pins s σ H xs us Q I r h
  obtain ⟨x, tp, cs, t, ws, b, rfl, hT, k, ty, e, q⟩ := h
  obtain ⟨u1, u2, rfl, r1, r2⟩ := vals2 r
  cases (show u2 = Value.ref tp from r2)
  obtain ⟨P, Z, p, hx⟩ := kitE I r1 ty
  obtain ⟨_, its, rv, o, h1, h2, n, h3⟩ := (show ObjOk X.prog X.w H s.heap tp (.tup cs) from I.hok tp _ hT)
  have e3 := ClsV.all k rv
  subst e3
  obtain ⟨oc, od, dt, sl⟩ := o
  simp only at h2 h3
  subst h2 h3
  exact PySem.W.kia_tup Z I.kIn p h1 e hx fun tk => ⟨.bl b, H, I.tok tk, rfl, q⟩

/-! ### made -/
/-- the promise of an __init__ that stores one parameter, two -/
def spI1 (C : Addr) (f : Str) : Sp := fun vs H Q _ => ∃ (a : Addr) (y : V), vs = [.ref a, y] ∧ H a = some (exo a C none) ∧ ∀ H', (∀ b o, H b = some o → b ≠ a → H' b = some o) → ErrNew H H' a C [(f, y)] → Q .non H'
def spI2 (C : Addr) (f g : Str) : Sp := fun vs H Q _ => ∃ (a : Addr) (y z : V), vs = [.ref a, y, z] ∧ H a = some (exo a C none) ∧ ∀ H', (∀ b o, H b = some o → b ≠ a → H' b = some o) → ErrNew H H' a C [(g, z), (f, y)] → Q .non H'
/-- C(e, ..) -/
def tMkE (C : Addr) (sp : Sp) (ta : TA) : TE := fun σ H Q => ta σ H fun vs H1 => vs.length ≤ 1000 ∧ ∀ a, H1 a = none → sp (.ref a :: vs) (upd H1 a (exo a C none)) (fun v H2 => v = .non ∧ Q (.ref a) H2) E0
theorem exo_laid {pins : List (Addr × Obj)} {σ : St} {H1 : Hp} {hp : Heap} {g : Array GenState} {dr : Drawn} {tk : Nat} {os : OsState} {us : List Value} {C : Addr} (I1 : Inv X pins σ H1 ⟨hp, g, dr, tk, os⟩) :
    Inv X pins σ (upd H1 (hp.objs.size + 1) (exo (hp.objs.size + 1) C none)) ⟨(hp.push (PySem.W.kdv_tup us)).push (PySem.HandSPX.excO C hp.objs.size), g, dr, tk, os⟩ := by
  have kk : ∀ b o, hp.get? b = some o → ((hp.push (PySem.W.kdv_tup us)).push (PySem.HandSPX.excO C hp.objs.size)).get? b = some o := fun b o e => Heap.get?_push_of_some _ (Heap.get?_push_of_some _ e)
  have hget : ((hp.push (PySem.W.kdv_tup us)).push (PySem.HandSPX.excO C hp.objs.size)).get? (hp.objs.size + 1) = some (PySem.HandSPX.excO C hp.objs.size) := by heap_get
  exact I1.laid (t' := tk) (a := hp.objs.size + 1) (o := exo (hp.objs.size + 1) C none) (h' := (hp.push (PySem.W.kdv_tup us)).push (PySem.HandSPX.excO C hp.objs.size)) kk (Nat.le_succ _) (exo_ok hget)
theorem pe_mkE {x : Str} {C fI : Addr} {k : Nat} {fd : FuncData} {ps : List Str} {sp : Sp} (T : OexC X.K C) (iC : PySem.W.findIn X.K (.ref C) "__init__" = some (some (.ref fI))) (tI : PySem.W.typeIn X.K (.ref fI) = some (.type "function"))
    (F1 : FnOk X.prog X.w X.K X.mg X.base CX0 k fI fd ps sp) (hr : Room (k + 1) X.A) (hb : Binds X.K fd ps []) (hm : X.mg x = some (.ref C)) (hg : Gl X x) (ha : PA X (e :: es) ta)
    (hdb : (x == ("__debug__" : Str)) = false := by decide) (he : starEach (e :: es) X.env = (false, eval e X.env) :: starEach es X.env := by rfl) (hpl : (backTo pos (starEach es X.env)).any (·.1) = false := by rfl) :
    PE X (.Call (.Name x p) (e :: es) [] pos) (tMkE C sp ta) := by
  refine ⟨fun pins s σ H Q I h => ?_⟩
  obtain ⟨nm, q, N, bs, bm, sn, sub, ab, col, dd, k0, k1, k2, k3, k5, hC, hbm⟩ := T.cls
  refine wpAny_Call_Name_kw (ld_glob I hg hm ?_ hdb)
  refine PySem.W.callWith_K (h₀ := X.base) I.ok.mod.kin T.kC (thn (ha.run pos pins s σ H _ I h) fun us s1 ⟨vs, H1, I1, r1, hz, q1⟩ => ⟨I1.kIn, ?_⟩) he hpl
  show wpAny _ _ (call (.ref C) us) _ _ _
  obtain ⟨hp, g, dr, tk, os⟩ := s1
  have hn : H1 (hp.objs.size + 1) = none := I1.hok.fresh (Nat.le_succ _)
  have hq := q1 (hp.objs.size + 1) hn
  have I2 := exo_laid (C := C) (us := us) I1
  have r2 : Vals (V.ref (hp.objs.size + 1) :: vs) (Value.ref (hp.objs.size + 1) :: us) := .cons rfl r1
  have hl : (Value.ref (hp.objs.size + 1) :: us ++ []).length = ps.length := by
    rw [List.append_nil, ← r2.length]
    exact F1.len _ _ _ _ hq
  have hus : us.length ≤ sizeLine := by
    rw [← Paired.length r1, sizeLine_eq]
    omega
  have hbb := hb _ (Value.ref (hp.objs.size + 1) :: us) I2.kIn hl
  rw [List.append_nil] at hbb
  refine wpAny_call (PySem.HandSPX.call_own F.excBase_ValueError (fun Y => PySem.HandSPX.refsVE_contains Y bm hbm) (I1.kIn _ _ hC) (PySem.W.looks_findIn I1.kIn iC) (fun self => PySem.W.bind_fn I1.kIn self tI) hus
    (codeAny_mono (F1.run _ X.stack _ _ ⟨Value.ref (hp.objs.size + 1) :: us, []⟩ (Value.ref (hp.objs.size + 1) :: us) _ _ E0 (hr.make C us []) (I2.env0.make C us []) hbb r2 hq) fun r s' hq' => ?_))
  cases r with
  | error er => exact (show False from hq').elim
  | ok fl =>
    cases fl with
    | ret u =>
      obtain ⟨v, H', I3, rv, ev, q3⟩ := I2.after hq'
      subst ev
      exact ⟨rv, ⟨V.ref (hp.objs.size + 1), H', I3, rfl, q3⟩⟩
    | next => exact False.elim hq'
    | brk => exact False.elim hq'
    | cont => exact False.elim hq'
/-- C(k = e, ..): the keywords' values go to their parameters' places -/
def tMkK (C : Addr) (n : Nat) (sp : Sp) (gV : List V → List V) (tk : TA) : TE := fun σ H Q => tk σ H fun zs H1 => zs.length = n ∧ ∀ a, H1 a = none → sp (.ref a :: gV zs) (upd H1 a (exo a C none)) (fun v H2 => v = .non ∧ Q (.ref a) H2) E0
/-- how keywords bind beside self -/
structure KwB (fd : FuncData) (ps ks : List Str) (g : List Value → List Value) (gV : List V → List V) : Prop where
  to : ∀ (a : Value) (ws : List Value), ws.length = ks.length → bindArgs fd ⟨[a], ks.zip ws⟩ = pure (ps.zip (a :: g ws))
  rel : ∀ {zs : List V} {ws : List Value}, Vals zs ws → Vals (gV zs) (g ws)
theorem pe_mkK {x : Str} {C fI : Addr} {k : Nat} {fd : FuncData} {ps ks : List Str} {sp : Sp} {kws : List Keyword} {g : List Value → List Value} {gV : List V → List V} (T : OexC X.K C) (iC : PySem.W.findIn X.K (.ref C) "__init__" = some (some (.ref fI))) (tI : PySem.W.typeIn X.K (.ref fI) = some (.type "function"))
    (F1 : FnOk X.prog X.w X.K X.mg X.base CX0 k fI fd ps sp) (hr : Room (k + 1) X.A) (hb : KwB fd ps ks g gV) (hm : X.mg x = some (.ref C)) (hg : Gl X x) (hk : PK X kws tk)
    (hall : (backToKw pos (keywordEach kws X.env)).all (·.1.isSome) = true := by rfl) (hks : (backToKw pos (keywordEach kws X.env)).filterMap (·.1) = ks := by rfl)
    (hdb : (x == ("__debug__" : Str)) = false := by decide) (hpl : ((backTo pos (starEach [] X.env)).any (·.1) || (backToKw pos (keywordEach kws X.env)).any (·.1.isNone)) = false := by rfl) :
    PE X (.Call (.Name x p) [] kws pos) (tMkK C ks.length sp gV tk) := by
  refine ⟨fun pins s σ H Q I h => ?_⟩
  obtain ⟨nm, q, N, bs, bm, sn, sub, ab, col, dd, k0, k1, k2, k3, k5, hC, hbm⟩ := T.cls
  refine wpAny_Call_Name_kw (ld_glob I hg hm ?_ hdb)
  refine PySem.W.callWith_KW0 (h₀ := X.base) I.ok.mod.kin T.kC hall (thn (hk.run pos pins s σ H _ I h) fun ws s1 ⟨zs, H1, I1, r1, hz, q1⟩ => ⟨I1.kIn, ?_⟩) hpl
  rw [hks]
  show wpAny _ _ (call (.ref C) [] (ks.zip ws)) _ _ _
  obtain ⟨hp, gg, dr, tok, os⟩ := s1
  have hn : H1 (hp.objs.size + 1) = none := I1.hok.fresh (Nat.le_succ _)
  have hq := q1 (hp.objs.size + 1) hn
  have I2 := exo_laid (C := C) (us := []) I1
  have r2 : Vals (V.ref (hp.objs.size + 1) :: gV zs) (Value.ref (hp.objs.size + 1) :: g ws) := .cons rfl (hb.rel r1)
  have hw : ws.length = ks.length := r1.length.symm.trans hz
  refine wpAny_call (PySem.EKW.call_kw F.excBase_ValueError (fun Y => PySem.HandSPX.refsVE_contains Y bm hbm) (I1.kIn _ _ hC) (PySem.W.looks_findIn I1.kIn iC) (fun self => PySem.W.bind_fn I1.kIn self tI)
    (codeAny_mono (F1.run _ X.stack _ _ ⟨[Value.ref (hp.objs.size + 1)], ks.zip ws⟩ (Value.ref (hp.objs.size + 1) :: g ws) _ _ E0 (hr.make C [] (ks.zip ws)) (I2.env0.make C [] (ks.zip ws)) (.of_eq (hb.to _ ws hw)) r2 hq) fun r s' hq' => ?_))
  cases r with
  | error er => exact (show False from hq').elim
  | ok fl =>
    cases fl with
    | ret u =>
      obtain ⟨v, H', I3, rv, ev, q3⟩ := I2.after hq'
      subst ev
      exact ⟨rv, ⟨V.ref (hp.objs.size + 1), H', I3, rfl, q3⟩⟩
    | next => exact False.elim hq'
    | brk => exact False.elim hq'
    | cont => exact False.elim hq'
/-- C(), no __init__ of its own -/
def tMk0 (C : Addr) : TE := fun _ H Q => ∀ a, H a = none → Q (.ref a) (upd H a (exo a C none))
theorem pe_mk0 {x : Str} {C : Addr} {bmB : List Value} {B newId initId : String} (F : ExcBaseFacts B newId initId bmB) (q : PySem.W.excIn X.K C bmB newId = true) (kC : PySem.W.keepIn X.K (.ref C) = true) (hm : X.mg x = some (.ref C)) (hg : Gl X x)
    (hdb : (x == ("__debug__" : Str)) = false := by decide) : PE X (.Call (.Name x p) [] [] pos) (tMk0 C) := by
  refine ⟨fun pins s σ H Q I h => ?_⟩
  refine wpAny_Call_Name_kw (ld_glob I hg hm ?_ hdb)
  refine PySem.W.callWith_K0 I.kIn kC ?_
  show wpAny _ _ (call (.ref C) []) _ _ _
  obtain ⟨bm, N, nm, qn, bs, hdct, sn, sub, ab, col, dd, k0, k1, k2, k3, k5, mN, hC, hN, hni, T⟩ := exc_obj I.kIn q
  refine wpAny_call_exc_subT F T hC hN hni (fun h' a hm => ?_) (Nat.zero_le _)
  have hn : H a = none := I.hok.gone hm.new
  obtain ⟨t, ht, _, _⟩ := hm.there
  exact ⟨.ref a, upd H a (exo a C none), I.laidN hm.keeps hm.new hn (exo_ok ht), rfl, h a hn⟩
end
/-! ### the __init__ of one or two fields -/
section
variable {P : Program} {w : World} {K : PySem.W.Frag} {mg : Str → Option Value} {base : Heap}
theorem vis_of {N ps : List Str} {sc : Scope} (S : FnScope N ps sc) {x : Str} (h : x ∈ ps) : Vis sc x := by
  rcases S.par x h with z | z
  · exact .inl z
  · exact .inr (.inl z)
theorem errAt_new {H : Hp} {a C : Addr} {y : V} {f : Str} {dx : Addr} (ne : dx ≠ a) : ErrAt (upd (upd H dx (exd dx [(f, y)])) a (exo a C (some dx))) a C [(f, y)] :=
  ⟨dx, upd_same, by rw [upd_ne ne, upd_same]⟩
theorem exo_ne_exd {H : Hp} {a dx C : Addr} {d : Option Addr} (h : H a = some (exo a C d)) (n : H dx = none) : dx ≠ a := (ne_of_none h n).symm
theorem ok_init1 {C fI : Addr} {fd : FuncData} {q y f : Str} {st : Stmt} {p1 p2 p3 p4 : Pos} (F : Fun K "__init__" q st fI fd) (S : FnScope ["self", y] ["self", y] (defScope st)) (hb : defBody st = [.Assign [.Attribute (.Name "self" p1) f p2] (.Name y p3) p4])
    (T : OexC K C) (hf : PySem.W.findIn K (.ref C) f = some none) (hd1 : (y == ("__debug__" : Str)) = false) (hd2 : (y == ("__classdict__" : Str)) = false) : FnOk P w K mg base CX0 1 fI fd ["self", y] (spI1 C f) := by
  refine F.ok S (fun vs H Q E h => ?_) (fun cdv A outer s H vs Q E hr h => ?_)
  · obtain ⟨a, v, rfl, _⟩ := h
    rfl
  · obtain ⟨a, v, rfl, ha, k⟩ := h
    rw [hb]
    refine ⟨_, pss_one (ps_ost (pe_var (i := 0) rfl (vis_of S (by simp))) (pe_var (i := 1) rfl (vis_of S (by simp)) hd1 hd2)), ?_⟩
    refine ⟨v, rfl, .ref a, rfl, a, C, rfl, T, hf, .inl ⟨ha, fun dx n ne => ?_⟩⟩
    refine k _ (fun b o e hba => ?_) ⟨dx, n, upd_same, by rw [upd_ne ne, upd_same]⟩
    rw [upd_ne hba, upd_ne (ne_of_none e n)]
    exact e
theorem ok_init2 {C fI : Addr} {fd : FuncData} {q y z f g : Str} {st : Stmt} {p1 p2 p3 p4 q1 q2 q3 q4 : Pos} (F : Fun K "__init__" q st fI fd) (S : FnScope ["self", y, z] ["self", y, z] (defScope st))
    (hb : defBody st = [.Assign [.Attribute (.Name "self" p1) f p2] (.Name y p3) p4, .Assign [.Attribute (.Name "self" q1) g q2] (.Name z q3) q4])
    (T : OexC K C) (hf : PySem.W.findIn K (.ref C) f = some none) (hg : PySem.W.findIn K (.ref C) g = some none) (hd1 : (y == ("__debug__" : Str)) = false) (hd2 : (y == ("__classdict__" : Str)) = false)
    (he1 : (z == ("__debug__" : Str)) = false) (he2 : (z == ("__classdict__" : Str)) = false) : FnOk P w K mg base CX0 1 fI fd ["self", y, z] (spI2 C f g) := by
  refine F.ok S (fun vs H Q E h => ?_) (fun cdv A outer s H vs Q E hr h => ?_)
  · obtain ⟨a, v, v2, rfl, _⟩ := h
    rfl
  · obtain ⟨a, v, v2, rfl, ha, k⟩ := h
    rw [hb]
    refine ⟨_, pss_cons (ps_ost (pe_var (i := 0) rfl (vis_of S (by simp))) (pe_var (i := 1) rfl (vis_of S (by simp)) hd1 hd2))
      (pss_one (ps_ost (pe_var (i := 0) rfl (vis_of S (by simp))) (pe_var (i := 2) rfl (vis_of S (by simp)) he1 he2))), ?_⟩
    refine ⟨v, rfl, .ref a, rfl, a, C, rfl, T, hf, .inl ⟨ha, fun dx n ne => ?_⟩⟩
    refine ⟨v2, rfl, .ref a, rfl, a, C, rfl, T, hg, .inr ⟨dx, _, upd_same, (by rw [upd_ne ne, upd_same]), (by show 1 ≤ 900; decide), ?_⟩⟩
    refine k _ (fun b o e hba => ?_) ⟨dx, n, by rw [upd_ne ne.symm, upd_same], upd_same⟩
    rw [upd_ne (ne_of_none e n), upd_ne hba, upd_ne (ne_of_none e n)]
    exact e
/-! ### a class that is made so: its facts, its own promise -/
structure Er1 (P : Program) (w : World) (K : PySem.W.Frag) (mg : Str → Option Value) (base : Heap) (x y f : Str) (C : Addr) : Prop where
  k : ExK K C
  nf : PySem.W.findIn K (.ref C) f = some none
  m : mg x = some (.ref C)
  i : ∃ fI fd, PySem.W.findIn K (.ref C) "__init__" = some (some (.ref fI)) ∧ PySem.W.typeIn K (.ref fI) = some (.type "function") ∧ FnOk P w K mg base CX0 1 fI fd ["self", y] (spI1 C f) ∧ Binds K fd ["self", y] [] ∧ KwB fd ["self", y] [y] id id
structure Er2 (P : Program) (w : World) (K : PySem.W.Frag) (mg : Str → Option Value) (base : Heap) (x y z f g : Str) (C : Addr) : Prop where
  k : ExK K C
  nf : PySem.W.findIn K (.ref C) f = some none
  ng : PySem.W.findIn K (.ref C) g = some none
  m : mg x = some (.ref C)
  i : ∃ fI fd, PySem.W.findIn K (.ref C) "__init__" = some (some (.ref fI)) ∧ PySem.W.typeIn K (.ref fI) = some (.type "function") ∧ FnOk P w K mg base CX0 1 fI fd ["self", y, z] (spI2 C f g) ∧ Binds K fd ["self", y, z] [] ∧ KwB fd ["self", y, z] [y, z] id id ∧
    KwB fd ["self", y, z] [z, y] (fun l => l.reverse) (fun l => l.reverse)
end
/-! readings: one value in, a new error out -/
def tE1 (C : Addr) (f : Str) (ta : TA) : TE := fun σ H Q => ta σ H fun vs H1 => ∃ y, vs = [y] ∧ ∀ a H2, H1 a = none → Same H1 H2 → ErrAt H2 a C [(f, y)] → Q (.ref a) H2
def tE2 (C : Addr) (f g : Str) (ta : TA) : TE := fun σ H Q => ta σ H fun vs H1 => ∃ y z, vs = [y, z] ∧ ∀ a H2, H1 a = none → Same H1 H2 → ErrAt H2 a C [(g, z), (f, y)] → Q (.ref a) H2
def tE2r (C : Addr) (f g : Str) (ta : TA) : TE := fun σ H Q => ta σ H fun vs H1 => ∃ y z, vs = [z, y] ∧ ∀ a H2, H1 a = none → Same H1 H2 → ErrAt H2 a C [(g, z), (f, y)] → Q (.ref a) H2
theorem pe_imp {X : Cx} {e : Expr} {t t' : TE} (h : PE X e t) (k : ∀ σ H Q, t' σ H Q → t σ H Q) : PE X e t' := ⟨fun pins s σ H Q I q => h.run pins s σ H Q I (k σ H Q q)⟩
theorem same_but {H1 H2 : Hp} {a : Addr} {o : HO} (n : H1 a = none) (k : ∀ b u, (upd H1 a o) b = some u → b ≠ a → H2 b = some u) : Same H1 H2 := fun b u e => k b u (by rw [upd_ne (ne_of_none e n)]; exact e) (ne_of_none e n)
section
variable {X : Cx} {e e2 : Expr} {es : List Expr} {ta tk : TA} {f g x y z : Str} {p pos : Pos} {C : Addr}
/-- readings may be weakened behind -/
def MonoA (t : TA) : Prop := ∀ σ H (Q Q' : List V → Hp → Prop), (∀ vs H1, Q vs H1 → Q' vs H1) → t σ H Q → t σ H Q'
def MonoE (t : TE) : Prop := ∀ σ H (Q Q' : VK), (∀ v H1, Q v H1 → Q' v H1) → t σ H Q → t σ H Q'
theorem monoV {i : Nat} : MonoE (tVar i) := fun σ H Q Q' k ⟨v, h, q⟩ => ⟨v, h, k _ _ q⟩
theorem monoC {v : V} : MonoE (tC v) := fun σ H Q Q' k q => k _ _ q
theorem monoNil : MonoA tNil := fun σ H Q Q' k q => k _ _ q
theorem monoCons {t : TE} {r : TA} (h1 : MonoE t) (h2 : MonoA r) : MonoA (tCons t r) := fun σ H Q Q' k q => h1 _ _ _ _ (fun v H1 q1 => h2 _ _ _ _ (fun vs H2 q2 => k _ _ q2) q1) q
theorem pe_e1 {k : Nat} (T : Er1 X.prog X.w X.K X.mg X.base x y f C) (hr : Room k X.A) (h2 : 2 ≤ k) (hg : Gl X x) (ha : PA X (e :: es) ta) (mo : MonoA ta)
    (hdb : (x == ("__debug__" : Str)) = false := by decide) (he : starEach (e :: es) X.env = (false, eval e X.env) :: starEach es X.env := by rfl) (hpl : (backTo pos (starEach es X.env)).any (·.1) = false := by rfl) :
    PE X (.Call (.Name x p) (e :: es) [] pos) (tE1 C f ta) := by
  obtain ⟨fI, fd, i1, i2, i3, i4, i5⟩ := T.i
  refine pe_imp (pe_mkE T.k.oex i1 i2 i3 (hr.mono h2) i4 T.m hg ha hdb he hpl) fun σ H Q q => ?_
  refine mo σ H _ _ (fun vs H1 ⟨v, ev, q1⟩ => ?_) q
  subst ev
  refine ⟨by show 1 ≤ 1000; decide, fun a n => ⟨a, v, rfl, upd_same, fun H' kp E => ⟨rfl, q1 a H' n (same_but n kp) E.at⟩⟩⟩
theorem pe_e1k {k : Nat} {kws : List Keyword} (T : Er1 X.prog X.w X.K X.mg X.base x y f C) (hr : Room k X.A) (h2 : 2 ≤ k) (hg : Gl X x) (hk : PK X kws tk) (mo : MonoA tk)
    (hall : (backToKw pos (keywordEach kws X.env)).all (·.1.isSome) = true := by rfl) (hks : (backToKw pos (keywordEach kws X.env)).filterMap (·.1) = [y] := by rfl)
    (hdb : (x == ("__debug__" : Str)) = false := by decide) (hpl : ((backTo pos (starEach [] X.env)).any (·.1) || (backToKw pos (keywordEach kws X.env)).any (·.1.isNone)) = false := by rfl) :
    PE X (.Call (.Name x p) [] kws pos) (tE1 C f tk) := by
  obtain ⟨fI, fd, i1, i2, i3, i4, i5⟩ := T.i
  refine pe_imp (pe_mkK T.k.oex i1 i2 i3 (hr.mono h2) i5 T.m hg hk hall hks hdb hpl) fun σ H Q q => ?_
  refine mo σ H _ _ (fun vs H1 ⟨v, ev, q1⟩ => ?_) q
  subst ev
  exact ⟨rfl, fun a n => ⟨a, v, rfl, upd_same, fun H' kp E => ⟨rfl, q1 a H' n (same_but n kp) E.at⟩⟩⟩
theorem pe_e2 {k : Nat} (T : Er2 X.prog X.w X.K X.mg X.base x y z f g C) (hr : Room k X.A) (h2 : 2 ≤ k) (hg : Gl X x) (ha : PA X (e :: es) ta) (mo : MonoA ta)
    (hdb : (x == ("__debug__" : Str)) = false := by decide) (he : starEach (e :: es) X.env = (false, eval e X.env) :: starEach es X.env := by rfl) (hpl : (backTo pos (starEach es X.env)).any (·.1) = false := by rfl) :
    PE X (.Call (.Name x p) (e :: es) [] pos) (tE2 C f g ta) := by
  obtain ⟨fI, fd, i1, i2, i3, i4, i5⟩ := T.i
  refine pe_imp (pe_mkE T.k.oex i1 i2 i3 (hr.mono h2) i4 T.m hg ha hdb he hpl) fun σ H Q q => ?_
  refine mo σ H _ _ (fun vs H1 ⟨v, v2, ev, q1⟩ => ?_) q
  subst ev
  refine ⟨by show 2 ≤ 1000; decide, fun a n => ⟨a, v, v2, rfl, upd_same, fun H' kp E => ⟨rfl, q1 a H' n (same_but n kp) E.at⟩⟩⟩
theorem pe_e2k {k : Nat} {kws : List Keyword} (T : Er2 X.prog X.w X.K X.mg X.base x y z f g C) (hr : Room k X.A) (h2 : 2 ≤ k) (hg : Gl X x) (hk : PK X kws tk) (mo : MonoA tk)
    (hall : (backToKw pos (keywordEach kws X.env)).all (·.1.isSome) = true := by rfl) (hks : (backToKw pos (keywordEach kws X.env)).filterMap (·.1) = [z, y] := by rfl)
    (hdb : (x == ("__debug__" : Str)) = false := by decide) (hpl : ((backTo pos (starEach [] X.env)).any (·.1) || (backToKw pos (keywordEach kws X.env)).any (·.1.isNone)) = false := by rfl) :
    PE X (.Call (.Name x p) [] kws pos) (tE2r C f g tk) := by
  obtain ⟨fI, fd, i1, i2, i3, i4, i5, i6⟩ := T.i
  refine pe_imp (pe_mkK T.k.oex i1 i2 i3 (hr.mono h2) i6 T.m hg hk hall hks hdb hpl) fun σ H Q q => ?_
  refine mo σ H _ _ (fun vs H1 ⟨v, v2, ev, q1⟩ => ?_) q
  subst ev
  exact ⟨rfl, fun a n => ⟨a, v, v2, rfl, upd_same, fun H' kp E => ⟨rfl, q1 a H' n (same_but n kp) E.at⟩⟩⟩
end
end U

set_option Elab.async false
set_option linter.all false
set_option maxRecDepth 100000
set_option maxHeartbeats 4000000
/-! == and != of a value with itself, of rows of such -/
namespace PySem
namespace ESame
open PySem.W
section
variable {prog : Program} {w : World} {A : Around} {E : Value → Shared → Prop} {s : Shared} {K : Frag} {a C : Addr} {o : Obj}
/-- what the class says: object's own == and != -/
structure Cmp (K : Frag) (C : Addr) : Prop where
  eq : findIn K (.ref C) "__eq__" = some (some (.builtin "object.__eq__"))
  ne : findIn K (.ref C) "__ne__" = some (some (.builtin "object.__ne__"))
  ob : mroIn K C (.type "object") = some true
theorem spec_call {name : Str} {id : String} {args : List Value} {Q : Option Value → Shared → Prop} (X : K.In s.heap) (ho : s.heap.get? a = some o) (hc : o.cls = .ref C) (hf : findIn K (.ref C) name = some (some (.builtin id)))
    (hb : bindSpecial (.builtin id) (.ref a) = pure (.builtin id, [.ref a])) (hcall : wpAny (model prog w) A (call (.builtin id) (.ref a :: args)) (fun v => Q (some v)) E s) :
    wpAny (model prog w) A (callSpecialIfBound? (.ref a) name args) Q E s := by
  have L0 : Looks (model prog w) s.heap (typeOf (.ref a)) (.ref C) := fun A' Q' E' s' k q => wpAny_typeOf_ref (k _ _ ho) (by rw [hc]; exact q)
  have L1 : Looks (model prog w) s.heap (specialOf (.ref a) name) (some (.builtin id)) := L0.andThen (looks_findIn X hf)
  simp only [callSpecialIfBound?, bindSpecialIfBound?]
  refine wpAny_holding (wpAny_bind (wpAny_bind (L1.here ?_)))
  simp only [hb]
  refine wpAny_bind (wpAny_askSetting (wpAny_ite ?_))
  have fin : wpAny (model prog w) A (call (.builtin id) ([.ref a] ++ args) >>= fun v => pure (some v)) Q E s :=
    wpAny_bind (wpAny_mono hcall (fun v s' h' => wpAny_pure h') fun _ _ h' => h')
  split
  · exact wpAny_bind (wpAny_pure (wpAny_pure fin))
  · exact wpAny_tryCatch (wpAny_bind (wpAny_pure (wpAny_pure fin)))
theorem isObj (X : K.In s.heap) (ho : s.heap.get? a = some o) (hc : o.cls = .ref C) (T : Cmp K C) : Looks (model prog w) s.heap (isInstance (.ref a) (.type "object")) true := by
  have L0 : Looks (model prog w) s.heap (typeOf (.ref a)) (.ref C) := fun A' Q' E' s' k q => wpAny_typeOf_ref (k _ _ ho) (by rw [hc]; exact q)
  exact L0.andThen (looks_mroIn X T.ob)
theorem eq_self {Q : Option Value → Shared → Prop} (X : K.In s.heap) (ho : s.heap.get? a = some o) (hc : o.cls = .ref C) (T : Cmp K C) (q : Q (some (.bool true)) s) :
    wpAny (model prog w) A (callSpecialIfBound? (.ref a) "__eq__" [.ref a]) Q E s := by
  refine spec_call X ho hc T.eq (F.cmp_object.eq.bind _) ?_
  exact wpAny_call (codeAny_call_builtin F.cmp_object.eq.plain F.cmpEntry_eq (check_slot F.cmpKind_eq F.cmpSplit_eq (isObj X ho hc T) (F.cmpArgs_eq _ _) (objEq_entry_same q)))
theorem ne_entry {Q : Fin → Shared → Prop} (X : K.In s.heap) (ho : s.heap.get? a = some o) (hc : o.cls = .ref C) (T : Cmp K C) (hu : A.units < cLine) (q : Q (.done (.ret (.bool false))) s) :
    wpAny (model prog w) A (Builtin.«object.__ne__» ⟨[.ref a, .ref a], []⟩) Q E s := by
  unfold Builtin.«object.__ne__»
  repeat (first | with_reducible refine wpAny_cRoomFor hu ?_ | with_reducible refine eq_self X ho hc T ?_ | wp_step)
  exact q
theorem ne_self {Q : Value → Shared → Prop} (X : K.In s.heap) (ho : s.heap.get? a = some o) (hc : o.cls = .ref C) (T : Cmp K C) (hu : A.units + 1 < cLine) (q : Q (.bool false) s) :
    wpAny (model prog w) A (richCompare .NotEq (.ref a) (.ref a)) Q E s := by
  have hu0 : A.units < cLine := Nat.lt_of_succ_lt hu
  have L0 : Looks (model prog w) s.heap (typeOf (.ref a)) (.ref C) := fun A' Q' E' s' k q => wpAny_typeOf_ref (k _ _ ho) (by rw [hc]; exact q)
  have step : ∀ {Q' : Option Value → Shared → Prop}, Q' (some (.bool false)) s → wpAny (model prog w) A (tryCompare (.ref a) "__ne__" (.ref a)) Q' E s := fun {Q'} q' => by
    simp only [tryCompare]
    refine wpAny_bind (spec_call X ho hc T.ne (F.cmp_object.ne.bind _) ?_)
    refine wpAny_call (codeAny_call_builtin F.cmp_object.ne.plain F.cmpEntry_ne (check_slot F.cmpKind_ne F.cmpSplit_ne (isObj X ho hc T) (F.cmpArgs_ne _ _) (ne_entry (A := A.in1) X ho hc T hu ?_)))
    exact wpAny_pure q'
  obtain ⟨oc, od, dt, sl⟩ := o
  dsimp only at hc
  subst hc
  simp only [richCompare, cmpInfo_NotEq, oneThing_ref]
  repeat (first | with_reducible refine wpAny_cRoomFor hu0 ?_ | with_reducible refine wpAny_loadPart_at ho ?_ | with_reducible refine step ?_ | wp_step)
  exact q
end
end ESame
end PySem
namespace U
open PySem PySem.Spec L2
open PyProof.Rows hiding St
/-- equal by being the same thing: scalars, or one reference -/
def SameV (x y : V) : Prop := x = y ∧ (flatB x = true ∨ ∃ a, x = .ref a)
theorem SameV.eqAt {A : Around} {s : Shared} {x y : V} {v u : Value} (h : SameV x y) (rx : RelV x v) (ry : RelV y u) : SeqAt.EqAt A s v u true := by
  obtain ⟨rfl, h | ⟨a, rfl⟩⟩ := h
  · exact eqAt_same rx ry h
  · cases (show v = Value.ref a from rx)
    cases (show u = Value.ref a from ry)
    exact SeqAt.EqAt.same _
/-- a value that is equal to itself -/
def SelfV (K : PySem.W.Frag) (H : Hp) (x : V) : Prop := (flatB x = true) ∨ ∃ a, x = .ref a ∧ ((∃ xs, (H a = some (.lst xs) ∨ H a = some (.tup xs)) ∧ ∀ y ∈ xs, SameV y y) ∨ (∃ ks, H a = some (.dK ks) ∧ (ks.map (·.1)).Nodup ∧ ∀ p ∈ ks, SameV p.2 p.2) ∨ ∃ C d, H a = some (exo a C d) ∧ ESame.Cmp K C)
section
variable {X : Cx} {pins : List (Addr × Obj)} {σ : St} {H : Hp} {s : Shared}
theorem vals_eqAt {A : Around} {xs ys : List V} {us ws : List Value} (r1 : Vals xs us) (r2 : Vals ys ws) (h : Paired SameV xs ys) : ∀ j (h1 : j < us.toArray.size) (h2 : j < ws.toArray.size), SeqAt.EqAt A s us.toArray[j] ws.toArray[j] true := by
  induction h generalizing us ws with
  | nil =>
    intro j h1 _
    cases r1
    exact absurd h1 (Nat.not_lt_zero j)
  | cons e _ ih =>
    intro j h1 h2
    cases r1 with
    | cons a1 b1 =>
      cases r2 with
      | cons a2 b2 =>
        cases j with
        | zero => exact e.eqAt a1 a2
        | succ j => exact ih b1 b2 j (by simpa using h1) (by simpa using h2)
theorem paired_self : ∀ {xs : List V}, (∀ y ∈ xs, SameV y y) → Paired SameV xs xs
  | [], _ => .nil
  | x :: xs, h => .cons (h x List.mem_cons_self) (paired_self fun y hy => h y (List.mem_cons_of_mem _ hy))
/-- x != x -/
def rNeSelf (K : PySem.W.Frag) : R2 := fun x y H Q => x = y ∧ SelfV K H x ∧ Q (.bl false) H
theorem all_true (n : Nat) : ((List.range n).all fun _ => true) = true := List.all_eq_true.mpr fun _ _ => rfl
theorem valV_nodup : ∀ {ks : List (Key × V)} {p : Key × V}, (ks.map (·.1)).Nodup → p ∈ ks → valV ks p.1 = some p.2 := by
  intro ks p hn hp
  exact val_nodup hn p hp
theorem hits_same {A : Around} {ls : List (Key × V)} {vb : List (Key × Value)} (rb : KV ls vb) {ks : List (Key × V)} {va : List (Key × Value)} (ra : KV ks va) : (∀ p ∈ ks, valV ls p.1 = some p.2 ∧ SameV p.2 p.2) → PySem.W.KeqHits A s vb va true := by
  unfold KV at ra
  induction ra with
  | nil => intro _; exact .nil
  | @cons p q ps qs h t k =>
    intro hp
    obtain ⟨h1, h2⟩ := h
    obtain ⟨e, f⟩ := hp p List.mem_cons_self
    have rr : RelO (some p.2) (valueAt vb p.1) := by rw [← e]; exact rb.val p.1
    obtain ⟨y, hy, ry⟩ := rr.some_of
    obtain ⟨key, v⟩ := q
    have h1' : p.1 = key := h1
    rw [h1'] at hy
    show PySem.W.KeqHits A s vb ((key, v) :: qs) (true && true)
    exact .hit hy (f.eqAt h2 ry) (k fun p' hm => hp p' (List.mem_cons_of_mem _ hm))
theorem op_neSelf (hu : X.A.units + 1 < cLine) : OpR X (compareOp .NotEq) (rNeSelf X.K) := by
  intro pins s σ H x y v u Q I rx ry h
  obtain ⟨rfl, h, q⟩ := h
  have hu0 : X.A.units < cLine := Nat.lt_of_succ_lt hu
  rcases h with h | ⟨a, rfl, ⟨xs, hx, hs⟩ | ⟨ks, hk, hn, hs⟩ | ⟨C, d, hc, T⟩⟩
  · refine op_ne pins s σ H x x v u Q I rx ry ⟨?_, ?_⟩
    · cases x <;> first | rfl | cases h
    · rw [decide_eq_true rfl]
      exact q
  · cases (show v = Value.ref a from rx)
    cases (show u = Value.ref a from ry)
    rcases hx with hx | hx
    · obtain ⟨us, r1, p1, _⟩ := I.list (SqL.of hx)
      refine SeqAt.RcNeAt.lists (e := fun _ => true) p1.isList p1.isList rfl hu0 (vals_eqAt r1 r1 (paired_self hs)) X.prog X.w _ _ ?_
      rw [all_true]
      exact fin_bl I q rfl
    · obtain ⟨us, r1, p1, _⟩ := I.tuple (SqT.of hx)
      refine SeqAt.RcNeAt.tuples (e := fun _ => true) (show s.heap.IsTuple a us.toArray from p1) (show s.heap.IsTuple a us.toArray from p1) hu0 (vals_eqAt r1 r1 (paired_self hs)) X.prog X.w _ _ ?_
      rw [all_true]
      exact fin_bl I q (by simp)
  · cases (show v = Value.ref a from rx)
    cases (show u = Value.ref a from ry)
    obtain ⟨_, ya, va, ra, da⟩ := (show ObjOk X.prog X.w H s.heap a (.dK ks) from I.hok a _ hk)
    refine PySem.W.keq_ne (knd := mixKind X.prog X.w) (r := true) ya ya da da hu0 (fun _ => ?_) (fin_bl I q (by simp))
    exact hits_same ra ra fun p hp => ⟨valV_nodup hn hp, hs p hp⟩
  · cases (show v = Value.ref a from rx)
    cases (show u = Value.ref a from ry)
    obtain ⟨t1, ho⟩ := exo_at I.hok hc
    exact ESame.ne_self I.kIn ho rfl T hu (fin_bl I q rfl)
/-- two lists of tuples, the items pairwise the same -/
def rNeRows (K : PySem.W.Frag) : R2 := fun x y H Q => ∃ a b xs ys, x = .ref a ∧ y = .ref b ∧ H a = some (.lst xs) ∧ H b = some (.lst ys) ∧
  Paired (fun p q => ∃ c d us ws, p = .ref c ∧ q = .ref d ∧ c ≠ d ∧ H c = some (.tup us) ∧ H d = some (.tup ws) ∧ Paired SameV us ws) xs ys ∧ Q (.bl false) H
theorem op_neRows (hu : X.A.units + 2 < cLine) : OpR X (compareOp .NotEq) (rNeRows X.K) := by
  intro pins s σ H x y v u Q I rx ry h
  obtain ⟨a, b, xs, ys, rfl, rfl, ha, hb, hp, q⟩ := h
  cases (show v = Value.ref a from rx)
  cases (show u = Value.ref b from ry)
  obtain ⟨us, r1, p1, _⟩ := I.list (SqL.of ha)
  obtain ⟨ws, r2, p2, _⟩ := I.list (SqL.of hb)
  have hsz : us.toArray.size = ws.toArray.size := by
    rw [List.size_toArray, List.size_toArray, ← r1.length, ← r2.length]
    exact Paired.length hp
  have items : ∀ {xs ys : List V} {us ws : List Value}, Vals xs us → Vals ys ws → Paired (fun p q => ∃ c d us ws, p = .ref c ∧ q = .ref d ∧ c ≠ d ∧ H c = some (.tup us) ∧ H d = some (.tup ws) ∧ Paired SameV us ws) xs ys →
      ∀ j (h1 : j < us.toArray.size) (h2 : j < ws.toArray.size), SeqAt.EqAt X.A.in1 s us.toArray[j] ws.toArray[j] true := by
    intro xs ys us ws r1 r2 hp
    induction hp generalizing us ws with
    | nil =>
      intro j h1 _
      cases r1
      exact absurd h1 (Nat.not_lt_zero j)
    | cons e _ ih =>
      intro j h1 h2
      cases r1 with
      | cons a1 b1 =>
        cases r2 with
        | cons a2 b2 =>
          cases j with
          | succ j => exact ih b1 b2 j (by simpa using h1) (by simpa using h2)
          | zero =>
            obtain ⟨c, d, cs, ds, rfl, rfl, ne, hc, hd, hpp⟩ := e
            cases (show _ = Value.ref c from a1)
            cases (show _ = Value.ref d from a2)
            obtain ⟨us1, z1, q1, _⟩ := I.tuple (SqT.of hc)
            obtain ⟨us2, z2, q2, _⟩ := I.tuple (SqT.of hd)
            have hl : us1.toArray.size = us2.toArray.size := by
              rw [List.size_toArray, List.size_toArray, ← z1.length, ← z2.length]
              exact Paired.length hpp
            have k := SeqAt.RcAt.tuples (A := X.A.in1) (e := fun _ => true) (show s.heap.IsTuple c us1.toArray from q1) (show s.heap.IsTuple d us2.toArray from q2) (by show X.A.units + 1 < cLine; omega) (vals_eqAt z1 z2 hpp)
            rw [all_true, hl] at k
            exact SeqAt.EqAt.of_refs ne (by simpa using k)
  refine SeqAt.RcNeAt.lists (e := fun _ => true) p1.isList p2.isList hsz (by omega) (items r1 r2 hp) X.prog X.w _ _ ?_
  rw [all_true]
  exact fin_bl I q rfl
end
end U

set_option Elab.async false
set_option linter.all false
set_option maxRecDepth 100000
set_option maxHeartbeats 4000000
namespace U
open PySem PySem.Spec L2
open PyProof.Rows hiding St
/-- a def of the top, ready to be called by its name with all its arguments -/
structure Ok (P : Program) (w : World) (K : PySem.W.Frag) (mg : Str → Option Value) (base : Heap) (CX : CXT) (x : Str) (k : Nat) (ps : List Str) (sp : Sp) : Prop where
  ex : ∃ f fd, mg x = some (.ref f) ∧ PySem.W.keepIn K (.ref f) = true ∧ Binds K fd ps [] ∧ FnOk P w K mg base CX k f fd ps sp
section
variable {X : Cx} {x : Str} {p pos : Pos} {e : Expr} {es : List Expr} {t : TA} {k j : Nat} {ps : List Str} {sp : Sp}
theorem pe_callO (O : Ok X.prog X.w X.K X.mg X.base CX0 x k ps sp) (hr : Room k X.A) (hg : Gl X x) (ha : PA X (e :: es) t)
    (hdb : (x == ("__debug__" : Str)) = false := by decide) (he : starEach (e :: es) X.env = (false, eval e X.env) :: starEach es X.env := by rfl) (hpl : (backTo pos (starEach es X.env)).any (·.1) = false := by rfl) :
    PE X (.Call (.Name x p) (e :: es) [] pos) (tCall sp [] E0 t) := by
  obtain ⟨f, fd, m, kp, b, F⟩ := O.ex
  exact pe_call F hr hg m kp b .nil pass0 ha hdb he hpl
/-- .. whose exceptions are let out to the caller's own wish -/
theorem pe_callOS {W : St → XK} (O : Ok X.prog X.w X.K X.mg X.base (L2.CX X.prog X.w) x k ps sp) (hr : Room k X.A) (hg : Gl X x) (ht : ∀ σ, Passes (L2.CX X.prog X.w) X (W σ)) (ha : PA X (e :: es) t)
    (hdb : (x == ("__debug__" : Str)) = false := by decide) (he : starEach (e :: es) X.env = (false, eval e X.env) :: starEach es X.env := by rfl) (hpl : (backTo pos (starEach es X.env)).any (·.1) = false := by rfl) :
    PE X (.Call (.Name x p) (e :: es) [] pos) (fun σ H Q => t σ H fun vs H1 => sp vs H1 Q (W σ)) := by
  obtain ⟨f, fd, m, kp, b, F⟩ := O.ex
  refine ⟨fun pins s σ H Q I h => ?_⟩
  refine (pe_call (E := W σ) F hr hg m kp b .nil (ht σ) ha hdb he hpl).run pins s σ H Q I ?_
  show t σ H fun vs H1 => sp (vs ++ []) H1 Q (W σ)
  simp only [List.append_nil]
  exact h
end
/-! ### bools told, a row of them -/
/-- a row of calls isinstance(e, C): e read where no heap plays a part -/
theorem dp_bools {K : PySem.W.Frag} {H : Hp} : ∀ bs : List Bool, DpAll K H (bs.map V.bl) (bs.map PyData.bool)
  | [] => .nil
  | b :: bs => .cons (.bl b) (dp_bools bs)
end U

set_option Elab.async false
set_option linter.all false
set_option maxRecDepth 100000
set_option maxHeartbeats 4000000
/-! raising an own exception with fields; several except clauses with names -/
namespace U
open PySem PySem.Spec L2
open PyProof.Rows hiding St
section
variable {X : Cx} {x : Str} {p pos : Pos} {e : Expr} {es : List Expr} {t : TA} {k : Nat} {ps : List Str} {sp : Sp}
theorem pe_callW {W : WX} (O : Ok X.prog X.w X.K X.mg X.base (L2.CX X.prog X.w) x k ps sp) (hr : Room k X.A) (hg : Gl X x) (tk : Takes X W) (ha : PA X (e :: es) t)
    (hdb : (x == ("__debug__" : Str)) = false := by decide) (he : starEach (e :: es) X.env = (false, eval e X.env) :: starEach es X.env := by rfl) (hpl : (backTo pos (starEach es X.env)).any (·.1) = false := by rfl) :
    PE X (.Call (.Name x p) (e :: es) [] pos) (tCallS sp (WE W) t) := by
  obtain ⟨f, fd, m, kp, b, F⟩ := O.ex
  exact pe_callS F hr hg m kp b (passAt tk) ha hdb he hpl
end
/-! ### raise C(e), raise C(e, e2) -/
def tR1 (C : Addr) (f : Str) (W : WX) (ta : TA) : TS := fun _ σ H => ta σ H fun vs H1 => ∃ y, vs = [y] ∧ ∀ d H2, H1 d = none → Same H1 H2 → H2 d = some (.xd [(f, y)]) → W (.ref C) (some d) σ H2
def tR2 (C : Addr) (f g : Str) (W : WX) (ta : TA) : TS := fun _ σ H => ta σ H fun vs H1 => ∃ y z, vs = [y, z] ∧ ∀ d H2, H1 d = none → Same H1 H2 → H2 d = some (.xd [(g, z), (f, y)]) → W (.ref C) (some d) σ H2
theorem ps_imp {X : Cx} {s : Stmt} {t t' : TS} (h : PS X s t) (k : ∀ D σ H, t' D σ H → t D σ H) : PS X s t' := ⟨fun pins s σ H D I q => h.run pins s σ H D I (k D σ H q)⟩
theorem same_raised {H1 H' : Hp} {a d C : Addr} {o u : HO} (n : H1 a = none) (hd : upd H1 a o d = none) (kp : ∀ b u, (upd H1 a o) b = some u → b ≠ a → H' b = some u) : H1 d = none ∧ Same H1 (upd (del H' a) d u) := by
  have hda : d ≠ a := fun e => by
    rw [e, upd_same] at hd
    cases hd
  rw [upd_ne hda] at hd
  refine ⟨hd, fun c v e => ?_⟩
  have hc : c ≠ a := ne_of_none e n
  rw [upd_ne (ne_of_none e hd), del_ne hc]
  exact kp c v (by rw [upd_ne hc]; exact e) hc
section
variable {X : Cx} {e e2 : Expr} {es : List Expr} {ta : TA} {f g x y z : Str} {p pos pos2 : Pos} {C : Addr} {W : WX}
theorem ps_r1 {k : Nat} (T : Er1 X.prog X.w X.K X.mg X.base x y f C) (hc : X.calm = true) (tk : Takes X W) (hr : Room k X.A) (h2 : 2 ≤ k) (hg : Gl X x) (ha : PA X (e :: es) ta) (mo : MonoA ta)
    (hdb : (x == ("__debug__" : Str)) = false := by decide) (he : starEach (e :: es) X.env = (false, eval e X.env) :: starEach es X.env := by rfl) (hpl : (backTo pos (starEach es X.env)).any (·.1) = false := by rfl) :
    PS X (.Raise (some (.Call (.Name x p) (e :: es) [] pos)) none pos2) (tR1 C f W ta) := by
  obtain ⟨fI, fd, i1, i2, i3, i4, i5⟩ := T.i
  refine ps_imp (ps_raise hc tk (pmk_oex T.k.oex i1 i2 i3 (hr.mono h2) i4 .nil pass0 hg T.m ha hdb he hpl)) fun D σ H q => ?_
  refine mo σ H _ _ (fun vs H1 ⟨v, ev, q1⟩ => ?_) q
  subst ev
  refine ⟨by show 1 ≤ 1000; decide, fun a n => ⟨a, v, rfl, upd_same, fun H' kp E => ⟨rfl, ?_⟩⟩⟩
  obtain ⟨d, hd, h1, h3⟩ := E
  obtain ⟨hd1, sm⟩ := same_raised (C := C) (u := .xd [(f, v)]) n hd kp
  exact ⟨d, _, h1, h3, hd1, q1 d _ hd1 sm upd_same⟩
theorem ps_r2 {k : Nat} (T : Er2 X.prog X.w X.K X.mg X.base x y z f g C) (hc : X.calm = true) (tk : Takes X W) (hr : Room k X.A) (h2 : 2 ≤ k) (hg : Gl X x) (ha : PA X (e :: es) ta) (mo : MonoA ta)
    (hdb : (x == ("__debug__" : Str)) = false := by decide) (he : starEach (e :: es) X.env = (false, eval e X.env) :: starEach es X.env := by rfl) (hpl : (backTo pos (starEach es X.env)).any (·.1) = false := by rfl) :
    PS X (.Raise (some (.Call (.Name x p) (e :: es) [] pos)) none pos2) (tR2 C f g W ta) := by
  obtain ⟨fI, fd, i1, i2, i3, i4, i5, i6⟩ := T.i
  refine ps_imp (ps_raise hc tk (pmk_oex T.k.oex i1 i2 i3 (hr.mono h2) i4 .nil pass0 hg T.m ha hdb he hpl)) fun D σ H q => ?_
  refine mo σ H _ _ (fun vs H1 ⟨v, v2, ev, q1⟩ => ?_) q
  subst ev
  refine ⟨by show 2 ≤ 1000; decide, fun a n => ⟨a, v, v2, rfl, upd_same, fun H' kp E => ⟨rfl, ?_⟩⟩⟩
  obtain ⟨d, hd, h1, h3⟩ := E
  obtain ⟨hd1, sm⟩ := same_raised (C := C) (u := .xd [(g, v2), (f, v)]) n hd kp
  exact ⟨d, _, h1, h3, hd1, q1 d _ hd1 sm upd_same⟩
end
theorem ExK.xf {K : PySem.W.Frag} {C : Addr} (T : ExK K C) : XfC K C := ⟨T.ga, T.gt, T.oex.exC, T.hd⟩
/-! ### try: .. except c as n: .. except c2 as n: .. -/
def wManyAs (K : PySem.W.Frag) (i : Nat) (Wout : WX) (D : Ends) : List (Value × (Addr → Value → Option Addr → TS)) → WX
  | [] => Wout
  | (c, ts) :: r => fun cls d σ H => ∃ b, PySem.W.exmOne K cls c = some b ∧ (b = true → ∀ a, H a = none →
      ts a cls d { nx := fun σ' H' => D.nx (σ'.set i none) H', rt := D.rt, bk := fun σ' H' => D.bk (σ'.set i none) H', ct := fun σ' H' => D.ct (σ'.set i none) H' } (σ.set i (some (.ref a))) H) ∧ (b = false → wManyAs K i Wout D r cls d σ H)
inductive HdsAs (X : Cx) (n : Str) : List ExceptHandler → List (Value × (Addr → Value → Option Addr → TS)) → Prop
  | nil : HdsAs X n [] []
  | cons {x : Str} {c : Value} {ts : Addr → Value → Option Addr → TS} {b₀ : Stmt} {suite : List Stmt} {np pos' : Pos} {hds : List ExceptHandler} {l : List (Value × (Addr → Value → Option Addr → TS))} (hc : Names X x c)
      (hsu : ∀ (a : Addr) (oe : Obj) (cls : Value) (d : Option Addr) (pn : List (Addr × Obj)), Zc cls d oe → (∃ vs, oe.data = .fields vs) → PSs (X.suite a ((a, oe) :: pn)) (b₀ :: suite) (ts a cls d)) (r : HdsAs X n hds l) :
      HdsAs X n (.ExceptHandler (some (.Name x np)) (some n) (b₀ :: suite) pos' :: hds) ((c, ts) :: l)
section
variable {X : Cx} {n : Str} {i : Nat} {body : List Stmt} {h₀ : ExceptHandler} {hds : List ExceptHandler} {l : List (Value × (Addr → Value → Option Addr → TS))} {pos : Pos} {tb : WX → TS} {Wout : WX}
theorem ps_try_manyAs (hs : X.stack = X.env :: X.outer) (hf : X.env.frame = some X.env.locals) (hN : X.N.Nodup) (hi : X.N[i]? = some n) (hln : X.env.kindOf n = some .local) (tk : Takes X Wout)
    (hb : ∀ (W : WX) (pn : List (Addr × Obj)) (xe : Value → Shared → Prop), Takes (X.tr pn xe) W → PassesOwn (model X.prog X.w) X.A X.env xe → PSs (X.tr pn xe) body (tb W))
    (hh : HdsAs X n (h₀ :: hds) l) : PS X (.Try body (h₀ :: hds) [] [] pos) (fun D σ H => tb (wManyAs X.K i Wout D l) D σ H) := by
  refine ⟨fun pins s σ H D I h => ?_⟩
  have ok := I.ok
  have hfr : X.A.frames = some (X.env :: X.outer) := by rw [ok.frames, hs]
  have hloc : Loc X.env.scope n := .inl hln
  refine wpAny_Try_except ?_
  refine wpAny_mono ((hb (wManyAs X.K i Wout D l) (X.pn ++ pins) (fun e s₁ => wpAny (model X.prog X.w) X.A (noteFrame e X.env) (fun _ s₂ => wpAny (model X.prog X.w) X.A (setFlight e none) (fun _ s₃ =>
    wpAny (model X.prog X.w) X.A (handleBy e X.env (h₀ :: hds)) (SP X pins D) X.xe s₃) X.xe s₂) X.xe s₁) (fun u s' xx => ?_) PassesOwn.looking).run [] s σ H D (I.toTry _) h) (fun f s1 hsp => ?_) (fun e s1 he => he)
  · obtain ⟨a, B, sI, pins', σ', H', cls, d, rfl, J', nb, up, sky, na, os, ag, w⟩ := xx
    have J : Inv X pins σ' H' sI := J'.ofTry ok
    have sky' : Sky B (X.env :: X.outer) a (Zc cls d) X.env.locals s'.heap := by rw [← hs]; exact sky
    show wpAny (model X.prog X.w) X.A (noteFrame (.ref a) X.env) _ _ _
    refine Sky.land Zc.steady hfr hf sky' fun h3 fl3 up3 => ?_
    have J3 : Inv X pins σ' H' { s' with heap := h3 } := J.landed nb fl3.1 (up.trans up3) os ag
    obtain ⟨oe3, vs3, he3, hz3, hd3⟩ := fl3.there
    have notFr : ∀ {h : Heap} {o : Obj} {vs : Array Value}, h.FunFrames B (X.env :: X.outer) → h.get? a = some o → o.data = .fields vs → a ∉ frs (X.env :: X.outer) := fun {h o vs} ff e dd hm => by
      obtain ⟨_, o', e', hnf⟩ := ff.mem hm
      rw [e] at e'; cases e'
      exact hnf _ dd
    have nfr := notFr fl3.2.2.1 he3 hd3
    have nL : a ≠ X.env.locals := fun z => nfr (List.mem_filterMap.mpr ⟨X.env, List.mem_cons_self, by rw [hf, z]⟩)
    have nF : a ∉ X.fs := fun hm => by
      obtain ⟨e, he, q⟩ := List.mem_filterMap.mp hm
      exact nfr (List.mem_filterMap.mpr ⟨e, List.mem_cons_of_mem _ he, q⟩)
    have S3 := J3.suite he3 hd3 na nL nF
    have go : ∀ {hds' : List ExceptHandler} {l' : List (Value × (Addr → Value → Option Addr → TS))}, HdsAs X n hds' l' → wManyAs X.K i Wout D l' cls d σ' H' →
        wpAny (model X.prog X.w) X.A (handleBy (.ref a) X.env hds') (SP X pins D) X.xe { s' with heap := h3 } := by
      intro hds' l' hk
      induction hk with
      | nil =>
        intro w
        refine wpAny_handleBy_nil ?_
        obtain ⟨k1, k2, k3, oe, vs, T, oT, ts', he, hz, hd, h1, hr⟩ := id fl3
        unfold PySem.passOn
        refine wpAny_bind (wpAny_field he hd h1 ?_)
        rw [if_neg (show ¬ ((Value.ref T == Value.none) = true) from by simp)]
        have fin : wpAny (model X.prog X.w) X.A (setFlight (.ref a) X.env.frame) (fun _ s4 => wpAny (model X.prog X.w) X.A (throw (.ref a) : Sem Flow) (SP X pins D) X.xe s4) X.xe { s' with heap := h3 } := by
          rw [hf]
          refine HandSPX.setFlight_upZ fl3 fun h4 hh4 up4 => wpAny_throw (tk _ _ ?_)
          exact ⟨a, B, sI, pins, σ', H', cls, d, rfl, J, nb, (up.trans up3).trans up4, .inr (.inr (by rw [hs]; exact hh4)), na, os, ag, w⟩
        first
          | exact wpAny_bind (wpAny_pure (wpAny_bind fin))
          | exact wpAny_bind fin
      | @cons x c ts b₀ suite np pos' hds2 l2 hc hsu r ih =>
        intro w
        obtain ⟨b, hb1, hyes, hno⟩ := w
        refine wpAny_handleBy_cons (codeAny_handlers_test ?_) (by intro q; cases q)
        have LT : PySem.W.Looks (model X.prog X.w) h3 (typeOf (.ref a)) cls := fun A Q E s k q => wpAny_typeOf_ref (k _ _ he3) (by rw [hz3.1]; exact q)
        have LM := PySem.W.exm_one (M := model X.prog X.w) (J3.kIn) LT hb1
        have test : ∀ {Q : Value → Shared → Prop} {E : Value → Shared → Prop}, Q c { s' with heap := h3 } → wpAny (model X.prog X.w) (X.A.mark (some (.ref a))) (eval (.Name x np) X.env) Q E { s' with heap := h3 } := fun {Q E} q => by
          obtain ⟨hg, hdbg, hm | ⟨hm, hv, hnn⟩⟩ := hc
          · exact ld_glob (X := X.suite a ((a, oe3) :: (X.pn ++ pins))) S3 hg hm q hdbg
          · exact ld_blt (X := X.suite a ((a, oe3) :: (X.pn ++ pins))) S3 hg hm hv q hnn hdbg
        refine test (LM.here ?_)
        cases b with
        | true =>
          refine codeAny_handlers_suite_as ?_
          refine HandSPX.lands_againZ fl3 fun h4 fl4 up4 => ?_
          have J4 : Inv X pins σ' H' { s' with heap := h4 } := J.landed nb fl4.1 ((up.trans up3).trans up4) os ag
          obtain ⟨oe4, vs4, he4, hz4, hd4⟩ := fl4.there
          have S4 := J4.suite he4 hd4 na nL nF
          refine store_ok (X := X.suite a ((a, oe4) :: (X.pn ++ pins))) (v := .ref a) S4 hN hi hloc rfl (fun s5 S5 => ?_) (.inr hln)
          refine wpAny_mono ((hsu a oe4 cls d (X.pn ++ pins) hz4 ⟨_, hd4⟩).run [] s5 _ H' _ S5 (hyes rfl a na)) (fun f s6 hsp => ?_) (fun _ _ z => False.elim z)
          have end_ : ∀ {σ6 : L2.St} {H6 : Hp} {Q : Shared → Prop}, Inv (X.suite a ((a, oe4) :: (X.pn ++ pins))) [] σ6 H6 s6 → (∀ s7, Inv X pins (σ6.set i none) H6 s7 → Q s7) →
              wpAny (model X.prog X.w) X.A (do bindName X.env n .none; unbindBehindTheSuite X.env n pos') (fun _ s7 => Q s7) X.xe s6 := fun {σ6 H6 Q} S6 hq => gone_ok (S6.unsuite ok) hN hi hln hq
          cases f with
          | next =>
            obtain ⟨σ6, H6, S6, q6⟩ := hsp
            exact end_ S6 fun s7 J7 => ⟨_, _, J7, q6⟩
          | brk =>
            obtain ⟨σ6, H6, S6, q6⟩ := hsp
            exact end_ S6 fun s7 J7 => ⟨_, _, J7, q6⟩
          | cont =>
            obtain ⟨σ6, H6, S6, q6⟩ := hsp
            exact end_ S6 fun s7 J7 => ⟨_, _, J7, q6⟩
          | ret u =>
            obtain ⟨v6, σ6, H6, S6, r6, q6⟩ := hsp
            exact end_ S6 fun s7 J7 => ⟨_, _, _, J7, r6, q6⟩
        | false =>
          show wpAny _ X.A (handleBy (.ref a) X.env hds2) _ _ _
          exact ih (hno rfl)
    exact go hh w
  · cases f with
    | next =>
      obtain ⟨σ', H', J', q⟩ := hsp
      exact wpAny_execs_nil ⟨σ', H', J'.ofTry ok, q⟩
    | brk =>
      obtain ⟨σ', H', J', q⟩ := hsp
      exact ⟨σ', H', J'.ofTry ok, q⟩
    | cont =>
      obtain ⟨σ', H', J', q⟩ := hsp
      exact ⟨σ', H', J'.ofTry ok, q⟩
    | ret u =>
      obtain ⟨v, σ', H', J', r, q⟩ := hsp
      exact ⟨v, σ', H', J'.ofTry ok, r, q⟩
end
end U

set_option Elab.async false
set_option linter.all false
set_option maxRecDepth 100000
set_option maxHeartbeats 4000000
/-! x == x -/
namespace PySem
namespace ESame
open PySem.W
section
variable {prog : Program} {w : World} {A : Around} {E : Value → Shared → Prop} {s : Shared} {K : Frag} {a C : Addr} {o : Obj}
theorem eq_same {Q : Value → Shared → Prop} (X : K.In s.heap) (ho : s.heap.get? a = some o) (hc : o.cls = .ref C) (T : Cmp K C) (hu : A.units + 1 < cLine) (q : Q (.bool true) s) :
    wpAny (model prog w) A (richCompare .Eq (.ref a) (.ref a)) Q E s := by
  have hu0 : A.units < cLine := Nat.lt_of_succ_lt hu
  have step : ∀ {Q' : Option Value → Shared → Prop}, Q' (some (.bool true)) s → wpAny (model prog w) A (tryCompare (.ref a) "__eq__" (.ref a)) Q' E s := fun {Q'} q' => by
    simp only [tryCompare]
    refine wpAny_bind (eq_self X ho hc T ?_)
    exact wpAny_pure q'
  obtain ⟨oc, od, dt, sl⟩ := o
  dsimp only at hc
  subst hc
  simp only [richCompare, cmpInfo_Eq, oneThing_ref]
  repeat (first | with_reducible refine wpAny_cRoomFor hu0 ?_ | with_reducible refine wpAny_loadPart_at ho ?_ | with_reducible refine step ?_ | wp_step)
  exact q
end
end ESame
end PySem
namespace U
open PySem PySem.Spec L2
open PyProof.Rows hiding St
section
variable {X : Cx}
def rEqSelf (K : PySem.W.Frag) : R2 := fun x y H Q => x = y ∧ SelfV K H x ∧ Q (.bl true) H
theorem op_eqSelf (hu : X.A.units + 1 < cLine) : OpR X (compareOp .Eq) (rEqSelf X.K) := by
  intro pins s σ H x y v u Q I rx ry h
  obtain ⟨rfl, h, q⟩ := h
  have hu0 : X.A.units < cLine := Nat.lt_of_succ_lt hu
  rcases h with h | ⟨a, rfl, ⟨xs, hx, hs⟩ | ⟨ks, hk, hn, hs⟩ | ⟨C, d, hc, T⟩⟩
  · refine op_eq pins s σ H x x v u Q I rx ry ⟨?_, ?_⟩
    · cases x <;> first | rfl | cases h
    · rw [decide_eq_true rfl]
      exact q
  · cases (show v = Value.ref a from rx)
    cases (show u = Value.ref a from ry)
    rcases hx with hx | hx
    · obtain ⟨us, r1, p1, _⟩ := I.list (SqL.of hx)
      refine SeqAt.RcAt.lists (e := fun _ => true) p1.isList p1.isList rfl hu0 (vals_eqAt r1 r1 (paired_self hs)) X.prog X.w _ _ ?_
      rw [all_true]
      exact fin_bl I q rfl
    · obtain ⟨us, r1, p1, _⟩ := I.tuple (SqT.of hx)
      refine SeqAt.RcAt.tuples (e := fun _ => true) (show s.heap.IsTuple a us.toArray from p1) (show s.heap.IsTuple a us.toArray from p1) hu0 (vals_eqAt r1 r1 (paired_self hs)) X.prog X.w _ _ ?_
      rw [all_true]
      exact fin_bl I q (by simp)
  · cases (show v = Value.ref a from rx)
    cases (show u = Value.ref a from ry)
    obtain ⟨_, ya, va, ra, da⟩ := (show ObjOk X.prog X.w H s.heap a (.dK ks) from I.hok a _ hk)
    refine PySem.W.keq_eq (knd := mixKind X.prog X.w) (r := true) ya ya da da hu0 (fun _ => ?_) (fin_bl I q (by simp))
    exact hits_same ra ra fun p hp => ⟨valV_nodup hn hp, hs p hp⟩
  · cases (show v = Value.ref a from rx)
    cases (show u = Value.ref a from ry)
    obtain ⟨t1, ho⟩ := exo_at I.hok hc
    exact ESame.eq_same I.kIn ho rfl T hu (fin_bl I q rfl)
end
end U

set_option Elab.async false
set_option linter.all false
set_option maxRecDepth 100000
set_option maxHeartbeats 4000000
namespace K00
open PySem PySem.Spec L2 U
open PyProof.Rows hiding St
def top (i : Nat) : Stmt := PySem.Challenge.pw_thincoins_k00_errors_keep_their_fields.main.body.getD i (.Pass ⟨0, 0, 0, 0⟩)
abbrev s_law_bag : Stmt := top 27
abbrev s_law_pull : Stmt := top 28
abbrev s_law_field : Stmt := top 29
theorem sc_bag : FnScope ["_law_script", "_law_number", "_law_cell"] ["_law_script"] (defScope s_law_bag) := ⟨rfl, rfl, rfl, by decide +kernel, rfl, by decide +kernel, by decide +kernel⟩
theorem sc_pull : FnScope ["_law_bag_here", "_law_many", "_law_digit"] ["_law_bag_here", "_law_many"] (defScope s_law_pull) := ⟨rfl, rfl, rfl, by decide +kernel, rfl, by decide +kernel, by decide +kernel⟩
theorem sc_field : FnScope ["_law_bag_here", "_law_way", "_law_great", "_law_small"] ["_law_bag_here"] (defScope s_law_field) := ⟨rfl, rfl, rfl, by decide +kernel, rfl, by decide +kernel, by decide +kernel⟩
abbrev s_law_is_one : Stmt := top 30
theorem sc_is_one : FnScope ["_law_error", "_law_number", "_law_told", "_law_spot"] ["_law_error", "_law_number"] (defScope s_law_is_one) := ⟨rfl, rfl, rfl, by decide +kernel, rfl, by decide +kernel, by decide +kernel⟩
abbrev s_law_by_place : Stmt := top 31
theorem sc_by_place : FnScope ["_law_field_here", "_law_made"] ["_law_field_here"] (defScope s_law_by_place) := ⟨rfl, rfl, rfl, by decide +kernel, rfl, by decide +kernel, by decide +kernel⟩
abbrev s_law_by_name : Stmt := top 32
theorem sc_by_name : FnScope ["_law_field_here", "_law_made"] ["_law_field_here"] (defScope s_law_by_name) := ⟨rfl, rfl, rfl, by decide +kernel, rfl, by decide +kernel, by decide +kernel⟩
abbrev s_law_kept : Stmt := top 33
theorem sc_kept : FnScope ["_law_error", "_law_number"] ["_law_error", "_law_number"] (defScope s_law_kept) := ⟨rfl, rfl, rfl, by decide +kernel, rfl, by decide +kernel, by decide +kernel⟩
abbrev s_law_single_right : Stmt := top 34
theorem sc_single_right : FnScope ["_law_one", "_law_other", "_law_first", "_law_second", "_law_number", "_law_base"] ["_law_one", "_law_other"] (defScope s_law_single_right) := ⟨rfl, rfl, rfl, by decide +kernel, rfl, by decide +kernel, by decide +kernel⟩
abbrev s_law_double_right : Stmt := top 35
theorem sc_double_right : FnScope ["_law_one", "_law_other", "_law_error"] ["_law_one", "_law_other"] (defScope s_law_double_right) := ⟨rfl, rfl, rfl, by decide +kernel, rfl, by decide +kernel, by decide +kernel⟩
abbrev s_law_raised : Stmt := top 36
theorem sc_raised : FnScope ["_law_number", "_law_field_here"] ["_law_number", "_law_field_here"] (defScope s_law_raised) := ⟨rfl, rfl, rfl, by decide +kernel, rfl, by decide +kernel, by decide +kernel⟩
abbrev s_law_caught : Stmt := top 37
theorem sc_caught : FnScope ["_law_number", "_law_field_here", "caught"] ["_law_number", "_law_field_here"] (defScope s_law_caught) := ⟨rfl, rfl, rfl, by decide +kernel, rfl, by decide +kernel, by decide +kernel⟩
def nameOf : Nat → Str
  | 0 => "BadNumber"
  | 1 => "BadRatio"
  | 2 => "BadLot"
  | 3 => "BadBook"
  | 4 => "BadWeb"
  | 5 => "BadPolynomial"
  | 6 => "BadQuotient"
  | 7 => "BadQuestion"
  | 8 => "BadTown"
  | 9 => "BadPaper"
  | 10 => "BadDesk"
  | 11 => "Misfit"
  | 12 => "NoPoint"
  | 13 => "NoTie"
  | 14 => "NoSort"
  | 15 => "NoKind"
  | 16 => "NoName"
  | 17 => "Twice"
  | 18 => "Impossible"
  | 19 => "TooMany"
  | 20 => "Nothing"
  | 21 => "BadText"
  | 22 => "BadLine"
  | _ => "Nothing"
/-- the field of the first nineteen -/
def fld (n : Nat) : Str := if n < 12 then "part" else if n < 18 then "value" else "paper"
/-- the classes of errors: cl by their numbers, Missing, ThinError -/
structure Ers (P : Program) (w : World) (K : PySem.W.Frag) (mg : Str → Option Value) (base : Heap) (cl : Nat → Addr) (cM cT : Addr) : Prop where
  m : ∀ n, n < 23 → mg (nameOf n) = some (.ref (cl n))
  mM : mg "Missing" = some (.ref cM)
  mT : mg "ThinError" = some (.ref cT)
  k : ∀ n, n < 23 → ExK K (cl n)
  kit : ∀ n i, n < 23 → i < 23 → PySem.W.kitOne K (.ref (cl n)) (.ref (cl i)) = some (decide (i = n))
  kitM : ∀ n, n < 23 → PySem.W.kitOne K (.ref (cl n)) (.ref cM) = some (decide (12 ≤ n ∧ n < 17))
  kitT : ∀ n, n < 23 → PySem.W.kitOne K (.ref (cl n)) (.ref cT) = some true
  kitV : ∀ n, n < 23 → PySem.W.kitOne K (.ref (cl n)) (.type "ValueError") = some true
  kitB : ∀ n, n < 23 → PySem.W.kitAny K (.ref (cl n)) [.type "LookupError", .type "TypeError", .type "ArithmeticError", .type "AttributeError", .type "RuntimeError"] = some false
  er : ∀ n, n < 19 → Er1 P w K mg base (nameOf n) (fld n) (fld n) (cl n)
  miss : Er1 P w K mg base "Missing" "value" "value" cM
  kitMT : PySem.W.kitOne K (.ref cM) (.ref cT) = some true
  kitMB : PySem.W.kitAny K (.ref cM) [.ref (cl 12), .ref (cl 13), .ref (cl 14), .ref (cl 15), .ref (cl 16), .ref (cl 17)] = some false
  e19 : Er2 P w K mg base "TooMany" "what" "most" "what" "most" (cl 19)
  e21 : Er2 P w K mg base "BadText" "line" "item" "line" "item" (cl 21)
  e22 : Er2 P w K mg base "BadLine" "line" "error" "line" "error" (cl 22)
  e20 : PySem.W.excIn K (cl 20) [.type "ValueError", .type "Exception", .type "BaseException", .type "object"] "ValueError.__new__" = true
  cmp : ESame.Cmp K (cl 12)
/-- what the names of the built-ins hold -/
structure Blt (mg : Str → Option Value) : Prop where
  int : mg "int" = none
  abs : mg "abs" = none
  str : mg "str" = none
  range : mg "range" = none
  isinstance : mg "isinstance" = none
  ve : mg "ValueError" = none
  le : mg "LookupError" = none
  te : mg "TypeError" = none
  ae : mg "ArithmeticError" = none
  atE : mg "AttributeError" = none
  reE : mg "RuntimeError" = none
/-- all else is as it was -/
def But (b : Addr) (H H' : Hp) : Prop := ∀ c o, H c = some o → c ≠ b → H' c = some o
theorem But.trans {b : Addr} {H1 H2 H3 : Hp} (h : But b H1 H2) (k : But b H2 H3) : But b H1 H3 := fun c o e n => k c o (h c o e n) n
theorem But.refl {b : Addr} {H : Hp} : But b H H := fun _ _ e _ => e
theorem But.upd {b : Addr} {H : Hp} {o : HO} : But b H (upd H b o) := fun c u e n => by rw [upd_ne n]; exact e
theorem But.of {b : Addr} {H H' : Hp} (h : Same H H') : But b H H' := fun c o e _ => h c o e
theorem But.new {b p : Addr} {H H' : Hp} {o : HO} (h : But b H H') (n : H' p = none) : But b H (L2.upd H' p o) := fun c u e q => by
  rw [upd_ne (ne_of_none (h c u e q) n)]
  exact h c u e q
def BagOk (n0 n1 n2 : Int) : Prop := 0 ≤ n0 ∧ n0 < 2 ^ 20000 ∧ 0 ≤ n1 ∧ n1 < 2 ^ 30 ∧ 0 ≤ n2 ∧ n2 < 2 ^ 30
def bag (n0 n1 n2 : Int) : HO := .lst [.int n0, .int n1, .int n2]
def spPull : Sp := fun vs H Q _ => ∃ (b : Addr) (m n0 n1 n2 : Int), vs = [.ref b, .int m] ∧ H b = some (bag n0 n1 n2) ∧ BagOk n0 n1 n2 ∧ n1 + 1 < 2 ^ 30 ∧ 0 < m ∧ m < 2 ^ 200 ∧
  ∀ d m0 m1 : Int, 0 ≤ d → d < m → BagOk m0 m1 n2 → m1 ≤ n1 + 1 → Q (.int d) (upd H b (bag m0 m1 n2))
/-- a field's value -/
def Fld (K : PySem.W.Frag) (H : Hp) (b : Addr) (v : V) : Prop := SelfV K H v ∧ v ≠ .ref b
def spField (K : PySem.W.Frag) : Sp := fun vs H Q _ => ∃ (b : Addr) (n0 n1 n2 : Int), vs = [.ref b] ∧ H b = some (bag n0 n1 n2) ∧ BagOk n0 n1 n2 ∧ n1 + 3 < 2 ^ 30 ∧
  ∀ v H' m0 m1, But b H H' → H' b = some (bag m0 m1 n2) → BagOk m0 m1 n2 → m1 ≤ n1 + 3 → Fld K H' b v → Q v H'
def spBag (K : PySem.W.Frag) : Sp := fun vs H Q _ => ∃ (a : Addr) (ns : List Int), vs = [.ref a] ∧ SqL K H a (ns.map V.int) ∧
  ∀ p H' n0 n2, Same H H' → H p = none → H' p = some (bag n0 0 n2) → BagOk n0 0 n2 → Q (.ref p) H'
/-- an error of the n-th class stands at a -/
def IsN (K : PySem.W.Frag) (cl : Nat → Addr) (H : Hp) (a : Addr) (n : Nat) : Prop := (∃ fs, ErrAt H a (cl n) fs) ∨ H a = some (exo a (cl n) none)
def spIsOne (K : PySem.W.Frag) (cl : Nat → Addr) : Sp := fun vs H Q _ => ∃ (a : Addr) (n : Nat), vs = [.ref a, .int (n : Int)] ∧ n < 23 ∧ IsN K cl H a n ∧ ∀ H', Same H H' → Q (.bl true) H'
section
variable {P : Program} {w : World} {K : PySem.W.Frag} {mg : Str → Option Value} {base : Heap} {cl : Nat → Addr} {cM cT : Addr}
theorem ok_pull {f : Addr} {fd : FuncData} (B : Blt mg) (F : Fun K "_law_pull" "_law_pull" s_law_pull f fd) : FnOk P w K mg base CX0 1 f fd ["_law_bag_here", "_law_many"] spPull := by
  refine F.ok sc_pull (fun vs H Q E h => ?_) (fun cdv A outer s H vs Q E hr h => ?_)
  · obtain ⟨b, m, _, _, _, rfl, _⟩ := h
    rfl
  · obtain ⟨b, m, n0, n1, n2, rfl, hb, hok, h1, hm, hm2, k⟩ := h
    have nd := sc_pull.nd
    refine ⟨_, (pss_cons (ps_if (pt_cmpR op_eq (pe_ix ix_U (pv 0) pe_int (fun _ _ => rfl)) pe_int (nomark _)) (pss_cons (ps_asg (pe_op op_addU (pe_ix ix_U (pv 0) pe_int (fun _ _ => rfl)) pe_int) (pg_sub (pv 0) pe_int set_U))
        (pss_one (ps_asg (pe_op op_powU (pe_op op_addU (pe_op op_addU (pe_op op_mulU (pe_ix ix_U (pv 0) pe_int (fun _ _ => rfl)) (pe_op op_addU (pe_op op_mulU pe_int (pe_ix ix_U (pv 0) pe_int (fun _ _ => rfl))) pe_int)) (pe_op op_mulU pe_int (pe_ix ix_U (pv 0) pe_int (fun _ _ => rfl)))) pe_int) pe_int) (pg_sub (pv 0) pe_int set_U)))) pss_nil)
        (pss_cons (ps_set (i := 2) nd rfl (Or.inl rfl) (pe_op op_modU (pe_callTy call_intU (by rfl) B.int (by decide +kernel) (pa_cons (pe_ix ix_U (pv 0) pe_int (fun _ _ => rfl)) pa_nil)) (pv 1)))
        (pss_cons (ps_asg (pe_op op_fdivU (pe_callTy call_intU (by rfl) B.int (by decide +kernel) (pa_cons (pe_ix ix_U (pv 0) pe_int (fun _ _ => rfl)) pa_nil)) (pv 1)) (pg_sub (pv 0) pe_int set_U))
        (pss_one (ps_ret (pv 2)))))), ?_⟩
    rw [show start ["_law_bag_here", "_law_many", "_law_digit"] [V.ref b, V.int m] = [some (V.ref b), some (V.int m), none] from rfl]
    unfold bag at hb
    simp only [↓tVar_0, ↓tVar_s, ↓tC_ap, ↓tOp_ap, ↓tUn_ap, ↓asB_bl, ↓tTest_ap, ↓tB_ap, ↓tChain_ap, ↓tAnd_ap, ↓tOr_ap, ↓tNot_ap, ↓tNotV_ap, ↓tAndV_ap, ↓tOrV_ap, ↓tIf_ap, ↓tNil_ap, ↓tCons_ap, ↓tTup_ap, ↓tLst_ap, ↓tCB_ap, ↓tCall_ap, ↓tSeq_ap, ↓tNext_ap, ↓tBreak_ap, ↓tCont_ap, ↓tRet_ap, ↓tRetN_ap, ↓tDrop_ap, ↓tIfS_ap, ↓tAsg_ap, ↓gName_ap, ↓gSub_ap, ↓tPar_ap', ↓tPar3_ap', ↓two_ap, ↓three_ap, ↓rI2_ap, ↓rI20_ap, ↓rAddU_i, ↓rAddU_s, ↓rU_ap, ↓rIxU_l', ↓rIxU_t', ↓ixL_0, ↓ixL_1, ↓ixL_2, ↓ixL_3, ↓rEq_ii, ↓rNe_ii, ↓rEq_bb, ↓rNe_bb, ↓rIntU_i, ↓rIntU_b, ↓rAbsU_i, ↓rStrU_i, ↓rSetU_l', ↓setL_0, ↓setL_1, ↓setL_2, ↓reduceIte, ↓List.set_cons_zero, ↓List.set_cons_succ, List.cons_append, List.nil_append, List.append_nil, decide_eq_true_eq, Bool.not_eq_true', decide_eq_false_iff_not, List.length_cons, List.length_nil, upd_upd, ↓rIxU_l hb, ↓rSetU_l hb]
    obtain ⟨a0, a1, b0, b1, c0, c1⟩ := hok
    have h9 : CDivW n0 m ∧ CDivW 1 m := by
      have q := divok (i := 1) hm (k := 200) (by omega) (by decide) (by decide)
      exact ⟨⟨q.1, q.2⟩, q⟩
    refine ite2 (fun e => ?_) (fun e => ?_)
    · have z1 : 0 ≤ n2 * (2 * (n1 + 1) + 1) := Int.mul_nonneg c0 (by omega)
      have z2 : n2 * (2 * (n1 + 1) + 1) ≤ n2 * 2 ^ 32 := Int.mul_le_mul_of_nonneg_left (by omega) c0
      have z3 : 0 ≤ n2 * (2 * (n1 + 1) + 1) + 90523 * (n1 + 1) + 47 := by omega
      have z4 : n2 * (2 * (n1 + 1) + 1) + 90523 * (n1 + 1) + 47 < 2 ^ 63 := by omega
      generalize n2 * (2 * (n1 + 1) + 1) + 90523 * (n1 + 1) + 47 = y at z3 z4 ⊢
      have z5 : y.natAbs < 2 ^ 63 := by omega
      have z6 : 0 ≤ y ^ (Int.toNat 3) := Int.pow_nonneg z3
      have z7 : y ^ (Int.toNat 3) < 2 ^ 20000 := by
        have e1 : y ^ (Int.toNat 3) ≤ (2 ^ 63 : Int) ^ 3 := by
          show y ^ 3 ≤ (2 ^ 63 : Int) ^ 3
          have q : y ≤ 2 ^ 63 := by omega
          have q2 : y * y ≤ 2 ^ 63 * 2 ^ 63 := Int.mul_le_mul q q z3 (by decide)
          have q3 : y * y * y ≤ 2 ^ 63 * 2 ^ 63 * 2 ^ 63 := Int.mul_le_mul q2 q z3 (by decide)
          have e3 : y ^ 3 = y * y * y := by
            rw [Int.pow_succ, Int.pow_succ, Int.pow_succ, Int.pow_zero, Int.one_mul]
          rw [e3]
          exact q3
        exact Int.lt_of_le_of_lt e1 (by decide +kernel)
      refine ⟨mulok_l (by decide) (by decide), mulok_l (by omega) (by omega), mulok_l (by decide) (by decide), powok (k := 63) z5 (by decide) (by decide), hm, ⟨h9.2.1, h9.2.2⟩, ?_⟩
      refine k _ _ _ (Int.emod_nonneg _ (by omega)) (Int.emod_lt_of_pos _ hm) ⟨?_, ?_, by omega, by omega, c0, c1⟩ (by omega)
      · exact Int.ediv_nonneg z6 (Int.le_of_lt hm)
      · exact Int.lt_of_le_of_lt (Int.ediv_le_self _ z6) z7
    · refine ⟨hm, h9.1, ?_⟩
      refine k _ _ _ (Int.emod_nonneg _ (by omega)) (Int.emod_lt_of_pos _ hm) ⟨?_, ?_, b0, by omega, c0, c1⟩ (by omega)
      · exact Int.ediv_nonneg a0 (Int.le_of_lt hm)
      · exact Int.lt_of_le_of_lt (Int.ediv_le_self _ a0) a1
theorem cut40 (xs : List V) : (cutV xs none (some 40)).length ≤ 40 := by
  unfold cutV
  rw [List.length_take]
  have h : HT.sIx xs.length xs.length (some 40) ≤ 40 := by
    rw [show (40 : Int) = ((40 : Nat) : Int) from rfl, HT.sIx_nat]
    omega
  omega
theorem cut_ints (ns : List Int) : ∃ ms : List Int, cutV (ns.map V.int) none (some 40) = ms.map V.int := by
  unfold cutV
  rw [← List.map_drop, ← List.map_take]
  exact ⟨_, rfl⟩
theorem tSl_ap {r : V → Option Int → Option Int → Hp → VK → Prop} {te : TE} {tl th : TO} {σ : L2.St} {H : Hp} {Q : VK} : tSl r te tl th σ H Q = te σ H fun x H1 => tl σ H1 fun l H2 => th σ H2 fun u H3 => r x l u H3 Q := rfl
theorem pow1 (n : Nat) : (1 : Int) ≤ 2 ^ n := by
  have q : (0 : Int) < 2 ^ n := Int.pow_pos (by decide)
  omega
theorem ok_bag {f : Addr} {fd : FuncData} (B : Blt mg) (F : Fun K "_law_bag" "_law_bag" s_law_bag f fd) : FnOk P w K mg base CX0 1 f fd ["_law_script"] (spBag K) := by
  refine F.ok sc_bag (fun vs H Q E h => ?_) (fun cdv A outer s H vs Q E hr h => ?_)
  · obtain ⟨a, ns, rfl, _⟩ := h
    rfl
  · obtain ⟨a, ns, rfl, hS, k⟩ := h
    have nd := sc_bag.nd
    refine ⟨_, (pss_cons (ps_set (i := 1) nd rfl (Or.inl rfl) pe_int)
        (pss_cons (ps_for PassesOwn.never rfl (pi_list (pe_slice sl_list (pv 0) po_none (po_some pe_int))) (pg_name (i := 2) nd rfl (Or.inl rfl)) (pss_one (ps_set (i := 1) nd rfl (Or.inl rfl) (pe_op op_addU (pe_op op_mulU (pv 1) pe_int) (pe_op op_modU (pe_op op_addU (pe_op op_mulU pe_int (pe_callB call_absU (by rfl) B.abs (by decide +kernel) (pa_cons (pe_callTy call_intU (by rfl) B.int (by decide +kernel) (pa_cons (pv 2) pa_nil)) pa_nil))) (pe_callTy call_intU (by rfl) B.int (by decide +kernel) (pa_cons (pe_cmpR op_ltU (pv 2) pe_int (nomark _)) pa_nil))) (pe_op op_powU (pe_op op_powU pe_int pe_int) pe_int))))))
        (pss_one (ps_ret (pe_lst (pa_cons (pv 1) (pa_cons pe_int (pa_cons (pe_op op_modU (pe_callTy call_intU (by rfl) B.int (by decide +kernel) (pa_cons (pv 1) pa_nil)) pe_int) pa_nil)))))))), ?_⟩
    rw [show start ["_law_script", "_law_number", "_law_cell"] [V.ref a] = [some (V.ref a), none, none] from rfl]
    simp only [↓tVar_0, ↓tVar_s, ↓tC_ap, ↓tOp_ap, ↓tUn_ap, ↓asB_bl, ↓tTest_ap, ↓tB_ap, ↓tChain_ap, ↓tAnd_ap, ↓tOr_ap, ↓tNot_ap, ↓tNotV_ap, ↓tAndV_ap, ↓tOrV_ap, ↓tIf_ap, ↓tNil_ap, ↓tCons_ap, ↓tTup_ap, ↓tLst_ap, ↓tCB_ap, ↓tCall_ap, ↓tSeq_ap, ↓tNext_ap, ↓tBreak_ap, ↓tCont_ap, ↓tRet_ap, ↓tRetN_ap, ↓tDrop_ap, ↓tIfS_ap, ↓tAsg_ap, ↓gName_ap, ↓gSub_ap, ↓tPar_ap', ↓tPar3_ap', ↓two_ap, ↓three_ap, ↓rI2_ap, ↓rI20_ap, ↓rAddU_i, ↓rAddU_s, ↓rU_ap, ↓rIxU_l', ↓rIxU_t', ↓ixL_0, ↓ixL_1, ↓ixL_2, ↓ixL_3, ↓rEq_ii, ↓rNe_ii, ↓rEq_bb, ↓rNe_bb, ↓rIntU_i, ↓rIntU_b, ↓rAbsU_i, ↓rStrU_i, ↓rSetU_l', ↓setL_0, ↓setL_1, ↓setL_2, ↓reduceIte, ↓List.set_cons_zero, ↓List.set_cons_succ, List.cons_append, List.nil_append, List.append_nil, decide_eq_true_eq, Bool.not_eq_true', decide_eq_false_iff_not, List.length_cons, List.length_nil, upd_upd]

    obtain ⟨ms, hms⟩ := cut_ints ns
    have hlen : ms.length ≤ 40 := by
      have q := cut40 (ns.map V.int)
      rw [hms, List.length_map] at q
      exact q
    refine ⟨_, rfl, 40, rfl, a, ns.map V.int, rfl, hS, fun p hp => ?_⟩
    rw [hms]
    refine ⟨p, rfl, ⟨_, SqL.of upd_same⟩, for_list (K := K) (a := p) (xs := ms.map V.int) (fun i σ H2 => ∃ (n : Int) (v : Option V), σ = [some (.ref a), some (.int n), v] ∧ H2 = upd H p (.lst (ms.map V.int)) ∧ 0 ≤ n ∧ n < 2 ^ (1000 + 21 * i))
      ⟨131, none, rfl, rfl, by decide +kernel, ?_⟩ (fun i σ H2 _ ⟨_, _, _, e, _⟩ => by rw [e]; exact SqL.of upd_same) ?_ ?_⟩
    · exact Int.lt_of_lt_of_le (by decide +kernel : (131 : Int) < 2 ^ 1000) (by simp)
    · rintro i y σ H2 hi ⟨n, v, rfl, rfl, hn0, hn⟩
      obtain ⟨z, rfl⟩ : ∃ z, y = V.int z := by
        rw [List.getElem?_map] at hi
        cases e : ms[i]? with
        | none =>
          rw [e] at hi
          cases hi
        | some z =>
          rw [e] at hi
          exact ⟨z, (Option.some.inj hi).symm⟩
      simp only [↓tVar_0, ↓tVar_s, ↓tC_ap, ↓tOp_ap, ↓tUn_ap, ↓asB_bl, ↓tTest_ap, ↓tB_ap, ↓tChain_ap, ↓tAnd_ap, ↓tOr_ap, ↓tNot_ap, ↓tNotV_ap, ↓tAndV_ap, ↓tOrV_ap, ↓tIf_ap, ↓tNil_ap, ↓tCons_ap, ↓tTup_ap, ↓tLst_ap, ↓tCB_ap, ↓tCall_ap, ↓tSeq_ap, ↓tNext_ap, ↓tBreak_ap, ↓tCont_ap, ↓tRet_ap, ↓tRetN_ap, ↓tDrop_ap, ↓tIfS_ap, ↓tAsg_ap, ↓gName_ap, ↓gSub_ap, ↓tPar_ap', ↓tPar3_ap', ↓two_ap, ↓three_ap, ↓rI2_ap, ↓rI20_ap, ↓rAddU_i, ↓rAddU_s, ↓rU_ap, ↓rIxU_l', ↓rIxU_t', ↓ixL_0, ↓ixL_1, ↓ixL_2, ↓ixL_3, ↓rEq_ii, ↓rNe_ii, ↓rEq_bb, ↓rNe_bb, ↓rIntU_i, ↓rIntU_b, ↓rAbsU_i, ↓rStrU_i, ↓rSetU_l', ↓setL_0, ↓setL_1, ↓setL_2, ↓reduceIte, ↓List.set_cons_zero, ↓List.set_cons_succ, List.cons_append, List.nil_append, List.append_nil, decide_eq_true_eq, Bool.not_eq_true', decide_eq_false_iff_not, List.length_cons, List.length_nil, upd_upd]
      have m0 : (0 : Int) < (10 ^ Int.toNat 60) ^ Int.toNat 5 := by decide +kernel
      have m1 : ((10 : Int) ^ Int.toNat 60) ^ Int.toNat 5 < 2 ^ 1000 := by decide +kernel
      have m2 : ((10 : Int) ^ Int.toNat 60).natAbs < 2 ^ 200 := by decide +kernel
      have b0 : (2 : Int) ^ 1000 ≤ 2 ^ (1000 + 21 * i) := by
        rw [Int.pow_add]
        have q : (1 : Int) ≤ 2 ^ (21 * i) := pow1 _
        have q2 : (2 : Int) ^ 1000 * 1 ≤ 2 ^ 1000 * 2 ^ (21 * i) := Int.mul_le_mul_of_nonneg_left q (by decide +kernel)
        rw [Int.mul_one] at q2
        exact q2
      have b1 : (2 : Int) ^ (1000 + 21 * (i + 1)) = 2 ^ (1000 + 21 * i) * 2097152 := by
        rw [show 1000 + 21 * (i + 1) = (1000 + 21 * i) + 21 by omega, Int.pow_add _ (1000 + 21 * i) 21]
        rfl
      refine ⟨mulok_r (by decide) (by decide), mulok_l (by decide) (by decide), powok (k := 4) (by decide) (by decide) (by decide), powok (k := 200) m2 (by decide) (by decide), m0, _, _, rfl, trivial, ?_, ?_⟩
      · have q := Int.emod_nonneg (2 * (z.natAbs : Int) + if z < 0 then 1 else 0) (Int.ne_of_gt m0)
        omega
      · rw [b1]
        have q := Int.emod_lt_of_pos (2 * (z.natAbs : Int) + if z < 0 then 1 else 0) m0
        generalize (2 : Int) ^ (1000 + 21 * i) = b at b0 hn
        generalize (2 : Int) ^ 1000 = b2 at b0 m1
        generalize (((10 : Int) ^ Int.toNat 60) ^ Int.toNat 5) = M at q m1
        generalize (2 * (z.natAbs : Int) + if z < 0 then 1 else 0) % M = r at q
        omega
    · rintro σ H2 ⟨n, v, rfl, rfl, hn0, hn⟩
      simp only [↓tVar_0, ↓tVar_s, ↓tC_ap, ↓tOp_ap, ↓tUn_ap, ↓asB_bl, ↓tTest_ap, ↓tB_ap, ↓tChain_ap, ↓tAnd_ap, ↓tOr_ap, ↓tNot_ap, ↓tNotV_ap, ↓tAndV_ap, ↓tOrV_ap, ↓tIf_ap, ↓tNil_ap, ↓tCons_ap, ↓tTup_ap, ↓tLst_ap, ↓tCB_ap, ↓tCall_ap, ↓tSeq_ap, ↓tNext_ap, ↓tBreak_ap, ↓tCont_ap, ↓tRet_ap, ↓tRetN_ap, ↓tDrop_ap, ↓tIfS_ap, ↓tAsg_ap, ↓gName_ap, ↓gSub_ap, ↓tPar_ap', ↓tPar3_ap', ↓two_ap, ↓three_ap, ↓rI2_ap, ↓rI20_ap, ↓rAddU_i, ↓rAddU_s, ↓rU_ap, ↓rIxU_l', ↓rIxU_t', ↓ixL_0, ↓ixL_1, ↓ixL_2, ↓ixL_3, ↓rEq_ii, ↓rNe_ii, ↓rEq_bb, ↓rNe_bb, ↓rIntU_i, ↓rIntU_b, ↓rAbsU_i, ↓rStrU_i, ↓rSetU_l', ↓setL_0, ↓setL_1, ↓setL_2, ↓reduceIte, ↓List.set_cons_zero, ↓List.set_cons_succ, List.cons_append, List.nil_append, List.append_nil, decide_eq_true_eq, Bool.not_eq_true', decide_eq_false_iff_not, List.length_cons, List.length_nil, upd_upd]
      refine ⟨by decide, by show 3 ≤ sizeLine; decide, fun p1 hp1 => ?_⟩
      rw [List.length_map] at hn
      have big : n < 2 ^ 20000 := by
        refine Int.lt_of_lt_of_le hn ?_
        have q : (2 : Int) ^ (1000 + 21 * ms.length) * 1 ≤ 2 ^ (1000 + 21 * ms.length) * 2 ^ (20000 - (1000 + 21 * ms.length)) :=
          Int.mul_le_mul_of_nonneg_left (pow1 _) (Int.pow_nonneg (by decide))
        rw [Int.mul_one, ← Int.pow_add, show 1000 + 21 * ms.length + (20000 - (1000 + 21 * ms.length)) = 20000 by omega] at q
        exact q
      have np : p1 ≠ p := fun e => by
        rw [e, upd_same] at hp1
        cases hp1
      refine k p1 _ n (n % 998244353) (fun b o e => ?_) (by rw [upd_ne np] at hp1; exact hp1) upd_same ⟨hn0, big, by decide, by decide, Int.emod_nonneg _ (by decide), ?_⟩
      · rw [upd_ne, upd_ne (ne_of_none e hp)]
        · exact e
        · rw [upd_ne np] at hp1
          exact ne_of_none e hp1
      · have q := Int.emod_lt_of_pos n (show (0 : Int) < 998244353 by decide)
        omega
theorem web_len : ∀ n : Nat, n < 50 → (Str.ofString "web").length + (toString ((n : Nat) : Int) : Str).length ≤ sizeLine := by
  decide +kernel
theorem ok_field {f : Addr} {fd : FuncData} (B : Blt mg) (T : Ers P w K mg base cl cM cT) (O_pull : Ok P w K mg base CX0 "_law_pull" 1 ["_law_bag_here", "_law_many"] spPull)
    (F : Fun K "_law_field" "_law_field" s_law_field f fd) : FnOk P w K mg base CX0 3 f fd ["_law_bag_here"] (spField K) := by
  refine F.ok sc_field (fun vs H Q E h => ?_) (fun cdv A outer s H vs Q E hr h => ?_)
  · obtain ⟨b, n0, n1, n2, rfl, _⟩ := h
    rfl
  · obtain ⟨b, n0, n1, n2, rfl, hb, hok, hn, k⟩ := h
    have nd := sc_field.nd
    refine ⟨_, (pss_cons (ps_par3 (i := 1) (j := 2) (l := 3) rfl nd rfl rfl rfl (by decide) (by decide) (by decide) rfl rfl rfl (pa_cons (pe_callO O_pull (hr.mono (by decide)) (by rfl) (pa_cons (pv 0) (pa_cons pe_int pa_nil))) (pa_cons (pe_op op_subU (pe_callO O_pull (hr.mono (by decide)) (by rfl) (pa_cons (pv 0) (pa_cons (pe_op op_powU pe_int pe_int) pa_nil))) (pe_op op_powU pe_int pe_int)) (pa_cons (pe_callO O_pull (hr.mono (by decide)) (by rfl) (pa_cons (pv 0) (pa_cons pe_int pa_nil))) pa_nil))) (by rfl))
        (pss_cons (ps_if (pt_cmpR op_ltU (pv 1) pe_int (nomark _)) (pss_one (ps_ret (pe_ix ix_U (pe_lst (pa_cons (pv 2) (pa_cons (pv 3) (pa_cons (pe_un un_neg (pv 3)) pa_nil)))) (pv 1) (fun _ _ => rfl)))) pss_nil)
        (pss_cons (ps_if (pt_cmpR op_ltU (pv 1) pe_int (nomark _)) (pss_one (ps_ret (pe_ix ix_U (pe_lst (pa_cons (pe_op op_addU pe_str (pe_callTy call_strU (by rfl) B.str (by decide +kernel) (pa_cons (pv 3) pa_nil))) (pa_cons pe_str (pa_cons pe_non pa_nil)))) (pe_op op_subU (pv 1) pe_int) (fun _ _ => rfl)))) pss_nil)
        (pss_cons (ps_if (pt_cmpR op_eq (pv 1) pe_int (nomark _)) (pss_one (ps_ret (pe_cmpR op_ltU (pv 3) pe_int (nomark _)))) pss_nil)
        (pss_cons (ps_if (pt_cmpR op_eq (pv 1) pe_int (nomark _)) (pss_one (ps_ret (pe_lst (pa_cons (pv 3) (pa_cons (pe_lst (pa_cons (pv 2) (pa_cons pe_non pa_nil))) (pa_cons pe_str pa_nil)))))) pss_nil)
        (pss_cons (ps_if (pt_cmpR op_eq (pv 1) pe_int (nomark _)) (pss_one (ps_ret (pe_tup (pa_cons (pv 2) (pa_cons (pe_tup (pa_cons (pv 3) (pa_cons (pe_lst pa_nil) pa_nil))) pa_nil))))) pss_nil)
        (pss_one (ps_ret (pe_ifExp (pt_cmpR op_eq (pv 1) pe_int (nomark _)) (pe_disp (pps_cons pe_str (pe_lst (pa_cons (pv 3) pa_nil)) pps_nil) (by rfl) rfl (by simp) (by decide)) (pe_e1 (T.er 12 (by decide)) hr (by decide) (by rfl) (pa_cons (pv 3) pa_nil) (monoCons monoV monoNil))))))))))), ?_⟩
    rw [show start ["_law_bag_here", "_law_way", "_law_great", "_law_small"] [V.ref b] = [some (V.ref b), none, none, none] from rfl]
    simp only [↓tVar_0, ↓tVar_s, ↓tC_ap, ↓tOp_ap, ↓tUn_ap, ↓asB_bl, ↓tTest_ap, ↓tB_ap, ↓tChain_ap, ↓tAnd_ap, ↓tOr_ap, ↓tNot_ap, ↓tNotV_ap, ↓tAndV_ap, ↓tOrV_ap, ↓tIf_ap, ↓tNil_ap, ↓tCons_ap, ↓tTup_ap, ↓tLst_ap, ↓tCB_ap, ↓tCall_ap, ↓tSeq_ap, ↓tNext_ap, ↓tBreak_ap, ↓tCont_ap, ↓tRet_ap, ↓tRetN_ap, ↓tDrop_ap, ↓tIfS_ap, ↓tAsg_ap, ↓gName_ap, ↓gSub_ap, ↓tPar_ap', ↓tPar3_ap', ↓two_ap, ↓three_ap, ↓rI2_ap, ↓rI20_ap, ↓rAddU_i, ↓rAddU_s, ↓rU_ap, ↓rIxU_l', ↓rIxU_t', ↓ixL_0, ↓ixL_1, ↓ixL_2, ↓ixL_3, ↓rEq_ii, ↓rNe_ii, ↓rEq_bb, ↓rNe_bb, ↓rIntU_i, ↓rIntU_b, ↓rAbsU_i, ↓rStrU_i, ↓rSetU_l', ↓setL_0, ↓setL_1, ↓setL_2, ↓reduceIte, ↓List.set_cons_zero, ↓List.set_cons_succ, List.cons_append, List.nil_append, List.append_nil, decide_eq_true_eq, Bool.not_eq_true', decide_eq_false_iff_not, List.length_cons, List.length_nil, upd_upd]
    refine ⟨b, 11, n0, n1, n2, rfl, hb, hok, by omega, by decide, by decide, fun way a0 a1 w0 w1 ok1 l1 => ?_⟩
    refine ⟨powok (k := 4) (by decide) (by decide) (by decide), ?_⟩
    refine ⟨b, _, a0, a1, n2, rfl, upd_same, ok1, by omega, by decide +kernel, by decide +kernel, fun g b0 b1 g0 g1 ok2 l2 => ?_⟩
    refine ⟨powok (k := 4) (by decide) (by decide) (by decide), ?_⟩
    simp only [↓tVar_0, ↓tVar_s, ↓tC_ap, ↓tOp_ap, ↓tUn_ap, ↓asB_bl, ↓tTest_ap, ↓tB_ap, ↓tChain_ap, ↓tAnd_ap, ↓tOr_ap, ↓tNot_ap, ↓tNotV_ap, ↓tAndV_ap, ↓tOrV_ap, ↓tIf_ap, ↓tNil_ap, ↓tCons_ap, ↓tTup_ap, ↓tLst_ap, ↓tCB_ap, ↓tCall_ap, ↓tSeq_ap, ↓tNext_ap, ↓tBreak_ap, ↓tCont_ap, ↓tRet_ap, ↓tRetN_ap, ↓tDrop_ap, ↓tIfS_ap, ↓tAsg_ap, ↓gName_ap, ↓gSub_ap, ↓tPar_ap', ↓tPar3_ap', ↓two_ap, ↓three_ap, ↓rI2_ap, ↓rI20_ap, ↓rAddU_i, ↓rAddU_s, ↓rU_ap, ↓rIxU_l', ↓rIxU_t', ↓ixL_0, ↓ixL_1, ↓ixL_2, ↓ixL_3, ↓rEq_ii, ↓rNe_ii, ↓rEq_bb, ↓rNe_bb, ↓rIntU_i, ↓rIntU_b, ↓rAbsU_i, ↓rStrU_i, ↓rSetU_l', ↓setL_0, ↓setL_1, ↓setL_2, ↓reduceIte, ↓List.set_cons_zero, ↓List.set_cons_succ, List.cons_append, List.nil_append, List.append_nil, decide_eq_true_eq, Bool.not_eq_true', decide_eq_false_iff_not, List.length_cons, List.length_nil, upd_upd]
    refine ⟨b, 50, b0, b1, n2, rfl, upd_same, ok2, by omega, by decide, by decide, fun sm c0 c1 s0 s1 ok3 l3 => ?_⟩
    simp only [↓tVar_0, ↓tVar_s, ↓tC_ap, ↓tOp_ap, ↓tUn_ap, ↓asB_bl, ↓tTest_ap, ↓tB_ap, ↓tChain_ap, ↓tAnd_ap, ↓tOr_ap, ↓tNot_ap, ↓tNotV_ap, ↓tAndV_ap, ↓tOrV_ap, ↓tIf_ap, ↓tNil_ap, ↓tCons_ap, ↓tTup_ap, ↓tLst_ap, ↓tCB_ap, ↓tCall_ap, ↓tSeq_ap, ↓tNext_ap, ↓tBreak_ap, ↓tCont_ap, ↓tRet_ap, ↓tRetN_ap, ↓tDrop_ap, ↓tIfS_ap, ↓tAsg_ap, ↓gName_ap, ↓gSub_ap, ↓tPar_ap', ↓tPar3_ap', ↓two_ap, ↓three_ap, ↓rI2_ap, ↓rI20_ap, ↓rAddU_i, ↓rAddU_s, ↓rU_ap, ↓rIxU_l', ↓rIxU_t', ↓ixL_0, ↓ixL_1, ↓ixL_2, ↓ixL_3, ↓rEq_ii, ↓rNe_ii, ↓rEq_bb, ↓rNe_bb, ↓rIntU_i, ↓rIntU_b, ↓rAbsU_i, ↓rStrU_i, ↓rSetU_l', ↓setL_0, ↓setL_1, ↓setL_2, ↓reduceIte, ↓List.set_cons_zero, ↓List.set_cons_succ, List.cons_append, List.nil_append, List.append_nil, decide_eq_true_eq, Bool.not_eq_true', decide_eq_false_iff_not, List.length_cons, List.length_nil, upd_upd]
    generalize g - 10 ^ Int.toNat 21 = z
    have kk : ∀ v H', Same (upd H b (bag c0 c1 n2)) H' → Fld K H' b v → Q v H' := fun v H' sa fl =>
      k v H' c0 c1 (fun c o e n => sa c o (by rw [upd_ne n]; exact e)) (sa b _ upd_same) ok3 (by omega) fl
    have hb3 : upd H b (bag c0 c1 n2) b = some (bag c0 c1 n2) := upd_same
    generalize upd H b (bag c0 c1 n2) = H3 at kk hb3
    clear hb k l1 l2 l3 ok1 ok2 ok3 hok hn
    have new : ∀ {H' : Hp} {p : Addr} {o : HO}, Same H3 H' → H' p = none → Same H3 (upd H' p o) := fun sa hp c u e => by
      rw [upd_ne (ne_of_none (sa c u e) hp)]
      exact sa c u e
    have flat : ∀ {v : V}, flatB v = true → Q v H3 := fun {v} h => kk v H3 (fun _ _ e => e) ⟨.inl h, fun e => by subst e; cases h⟩
    have nob : ∀ {H' : Hp} {p : Addr}, Same H3 H' → H' p = none → V.ref p ≠ V.ref b := fun sa hp e => by
      cases e
      rw [sa b _ hb3] at hp
      cases hp
    refine ite2 (fun e => ?_) (fun e => ?_)
    · refine ⟨by decide, fun p hp => ?_⟩
      have q : ∀ i, Q (.int i) (upd H3 p (.lst [.int z, .int sm, .int (-sm)])) := fun i => kk _ _ (new (fun _ _ e => e) hp) ⟨.inl rfl, fun e => by cases e⟩
      obtain rfl | rfl | rfl : way = 0 ∨ way = 1 ∨ way = 2 := by omega
      all_goals
        simp only [↓tVar_0, ↓tVar_s, ↓tC_ap, ↓tOp_ap, ↓tUn_ap, ↓asB_bl, ↓tTest_ap, ↓tB_ap, ↓tChain_ap, ↓tAnd_ap, ↓tOr_ap, ↓tNot_ap, ↓tNotV_ap, ↓tAndV_ap, ↓tOrV_ap, ↓tIf_ap, ↓tNil_ap, ↓tCons_ap, ↓tTup_ap, ↓tLst_ap, ↓tCB_ap, ↓tCall_ap, ↓tSeq_ap, ↓tNext_ap, ↓tBreak_ap, ↓tCont_ap, ↓tRet_ap, ↓tRetN_ap, ↓tDrop_ap, ↓tIfS_ap, ↓tAsg_ap, ↓gName_ap, ↓gSub_ap, ↓tPar_ap', ↓tPar3_ap', ↓two_ap, ↓three_ap, ↓rI2_ap, ↓rI20_ap, ↓rAddU_i, ↓rAddU_s, ↓rU_ap, ↓rIxU_l', ↓rIxU_t', ↓ixL_0, ↓ixL_1, ↓ixL_2, ↓ixL_3, ↓rEq_ii, ↓rNe_ii, ↓rEq_bb, ↓rNe_bb, ↓rIntU_i, ↓rIntU_b, ↓rAbsU_i, ↓rStrU_i, ↓rSetU_l', ↓setL_0, ↓setL_1, ↓setL_2, ↓reduceIte, ↓List.set_cons_zero, ↓List.set_cons_succ, List.cons_append, List.nil_append, List.append_nil, decide_eq_true_eq, Bool.not_eq_true', decide_eq_false_iff_not, List.length_cons, List.length_nil, upd_upd]
        exact q _
    · refine ite2 (fun e => ?_) (fun e => ?_)
      · refine ⟨?_, ?_, by decide, fun p hp => ?_⟩
        · have z : sm.natAbs < 2 ^ 6 := by omega
          exact Nat.lt_of_lt_of_le (PySem.Flt.log2_lt_of (by decide) z) (by decide)
        · obtain ⟨n, rfl⟩ := Int.eq_ofNat_of_zero_le s0
          exact web_len n (by omega)
        have q : ∀ v, flatB v = true → Q v (upd H3 p (.lst [.str (Str.ofString "web" ++ toString sm), .str (Str.ofString ""), .non])) := fun v hv => kk v _ (new (fun _ _ e => e) hp) ⟨.inl hv, fun e => by subst e; cases hv⟩
        obtain rfl | rfl | rfl : way = 3 ∨ way = 4 ∨ way = 5 := by omega
        · simp only [↓tVar_0, ↓tVar_s, ↓tC_ap, ↓tOp_ap, ↓tUn_ap, ↓asB_bl, ↓tTest_ap, ↓tB_ap, ↓tChain_ap, ↓tAnd_ap, ↓tOr_ap, ↓tNot_ap, ↓tNotV_ap, ↓tAndV_ap, ↓tOrV_ap, ↓tIf_ap, ↓tNil_ap, ↓tCons_ap, ↓tTup_ap, ↓tLst_ap, ↓tCB_ap, ↓tCall_ap, ↓tSeq_ap, ↓tNext_ap, ↓tBreak_ap, ↓tCont_ap, ↓tRet_ap, ↓tRetN_ap, ↓tDrop_ap, ↓tIfS_ap, ↓tAsg_ap, ↓gName_ap, ↓gSub_ap, ↓tPar_ap', ↓tPar3_ap', ↓two_ap, ↓three_ap, ↓rI2_ap, ↓rI20_ap, ↓rAddU_i, ↓rAddU_s, ↓rU_ap, ↓rIxU_l', ↓rIxU_t', ↓ixL_0, ↓ixL_1, ↓ixL_2, ↓ixL_3, ↓rEq_ii, ↓rNe_ii, ↓rEq_bb, ↓rNe_bb, ↓rIntU_i, ↓rIntU_b, ↓rAbsU_i, ↓rStrU_i, ↓rSetU_l', ↓setL_0, ↓setL_1, ↓setL_2, ↓reduceIte, ↓List.set_cons_zero, ↓List.set_cons_succ, List.cons_append, List.nil_append, List.append_nil, decide_eq_true_eq, Bool.not_eq_true', decide_eq_false_iff_not, List.length_cons, List.length_nil, upd_upd, Int.reduceSub]
          exact q (.str _) rfl
        · simp only [↓tVar_0, ↓tVar_s, ↓tC_ap, ↓tOp_ap, ↓tUn_ap, ↓asB_bl, ↓tTest_ap, ↓tB_ap, ↓tChain_ap, ↓tAnd_ap, ↓tOr_ap, ↓tNot_ap, ↓tNotV_ap, ↓tAndV_ap, ↓tOrV_ap, ↓tIf_ap, ↓tNil_ap, ↓tCons_ap, ↓tTup_ap, ↓tLst_ap, ↓tCB_ap, ↓tCall_ap, ↓tSeq_ap, ↓tNext_ap, ↓tBreak_ap, ↓tCont_ap, ↓tRet_ap, ↓tRetN_ap, ↓tDrop_ap, ↓tIfS_ap, ↓tAsg_ap, ↓gName_ap, ↓gSub_ap, ↓tPar_ap', ↓tPar3_ap', ↓two_ap, ↓three_ap, ↓rI2_ap, ↓rI20_ap, ↓rAddU_i, ↓rAddU_s, ↓rU_ap, ↓rIxU_l', ↓rIxU_t', ↓ixL_0, ↓ixL_1, ↓ixL_2, ↓ixL_3, ↓rEq_ii, ↓rNe_ii, ↓rEq_bb, ↓rNe_bb, ↓rIntU_i, ↓rIntU_b, ↓rAbsU_i, ↓rStrU_i, ↓rSetU_l', ↓setL_0, ↓setL_1, ↓setL_2, ↓reduceIte, ↓List.set_cons_zero, ↓List.set_cons_succ, List.cons_append, List.nil_append, List.append_nil, decide_eq_true_eq, Bool.not_eq_true', decide_eq_false_iff_not, List.length_cons, List.length_nil, upd_upd, Int.reduceSub]
          exact q (.str _) rfl
        · simp only [↓tVar_0, ↓tVar_s, ↓tC_ap, ↓tOp_ap, ↓tUn_ap, ↓asB_bl, ↓tTest_ap, ↓tB_ap, ↓tChain_ap, ↓tAnd_ap, ↓tOr_ap, ↓tNot_ap, ↓tNotV_ap, ↓tAndV_ap, ↓tOrV_ap, ↓tIf_ap, ↓tNil_ap, ↓tCons_ap, ↓tTup_ap, ↓tLst_ap, ↓tCB_ap, ↓tCall_ap, ↓tSeq_ap, ↓tNext_ap, ↓tBreak_ap, ↓tCont_ap, ↓tRet_ap, ↓tRetN_ap, ↓tDrop_ap, ↓tIfS_ap, ↓tAsg_ap, ↓gName_ap, ↓gSub_ap, ↓tPar_ap', ↓tPar3_ap', ↓two_ap, ↓three_ap, ↓rI2_ap, ↓rI20_ap, ↓rAddU_i, ↓rAddU_s, ↓rU_ap, ↓rIxU_l', ↓rIxU_t', ↓ixL_0, ↓ixL_1, ↓ixL_2, ↓ixL_3, ↓rEq_ii, ↓rNe_ii, ↓rEq_bb, ↓rNe_bb, ↓rIntU_i, ↓rIntU_b, ↓rAbsU_i, ↓rStrU_i, ↓rSetU_l', ↓setL_0, ↓setL_1, ↓setL_2, ↓reduceIte, ↓List.set_cons_zero, ↓List.set_cons_succ, List.cons_append, List.nil_append, List.append_nil, decide_eq_true_eq, Bool.not_eq_true', decide_eq_false_iff_not, List.length_cons, List.length_nil, upd_upd, Int.reduceSub]
          exact q .non rfl
      · refine ite2 (fun e => flat (v := .bl _) rfl) (fun e => ?_)
        refine ite2 (fun e => ?_) (fun e => ?_)
        · refine ⟨by decide, fun p hp => ⟨by decide, fun p1 hp1 => ?_⟩⟩
          have s1 := new (o := .lst [.int z, .non]) (fun _ _ e => e) hp
          refine kk _ _ (new s1 hp1) ⟨.inr ⟨p1, rfl, .inl ⟨_, .inl upd_same, fun y hy => ?_⟩⟩, nob s1 hp1⟩
          rcases List.mem_cons.mp hy with rfl | hy
          · exact ⟨rfl, .inl rfl⟩
          · rcases List.mem_cons.mp hy with rfl | hy
            · exact ⟨rfl, .inr ⟨_, rfl⟩⟩
            · rcases List.mem_cons.mp hy with rfl | hy
              · exact ⟨rfl, .inl rfl⟩
              · cases hy
        · refine ite2 (fun e => ?_) (fun e => ?_)
          · refine ⟨by decide, fun p hp => ⟨by decide, fun p1 hp1 => ⟨by decide, fun p2 hp2 => ?_⟩⟩⟩
            have s1 := new (o := .lst []) (fun _ _ e => e) hp
            have s2 := new (o := .tup [.int sm, .ref p]) s1 hp1
            refine kk _ _ (new s2 hp2) ⟨.inr ⟨p2, rfl, .inl ⟨_, .inr upd_same, fun y hy => ?_⟩⟩, nob s2 hp2⟩
            rcases List.mem_cons.mp hy with rfl | hy
            · exact ⟨rfl, .inl rfl⟩
            · rcases List.mem_cons.mp hy with rfl | hy
              · exact ⟨rfl, .inr ⟨_, rfl⟩⟩
              · cases hy
          · refine ite2 (fun e => ?_) (fun e => ?_)
            · intro p hp
              have s1 := new (o := .dK []) (fun _ _ e => e) hp
              show tPairs _ _ _ _
              unfold tPairs
              simp only [↓tVar_0, ↓tVar_s, ↓tC_ap, ↓tOp_ap, ↓tUn_ap, ↓asB_bl, ↓tTest_ap, ↓tB_ap, ↓tChain_ap, ↓tAnd_ap, ↓tOr_ap, ↓tNot_ap, ↓tNotV_ap, ↓tAndV_ap, ↓tOrV_ap, ↓tIf_ap, ↓tNil_ap, ↓tCons_ap, ↓tTup_ap, ↓tLst_ap, ↓tCB_ap, ↓tCall_ap, ↓tSeq_ap, ↓tNext_ap, ↓tBreak_ap, ↓tCont_ap, ↓tRet_ap, ↓tRetN_ap, ↓tDrop_ap, ↓tIfS_ap, ↓tAsg_ap, ↓gName_ap, ↓gSub_ap, ↓tPar_ap', ↓tPar3_ap', ↓two_ap, ↓three_ap, ↓rI2_ap, ↓rI20_ap, ↓rAddU_i, ↓rAddU_s, ↓rU_ap, ↓rIxU_l', ↓rIxU_t', ↓ixL_0, ↓ixL_1, ↓ixL_2, ↓ixL_3, ↓rEq_ii, ↓rNe_ii, ↓rEq_bb, ↓rNe_bb, ↓rIntU_i, ↓rIntU_b, ↓rAbsU_i, ↓rStrU_i, ↓rSetU_l', ↓setL_0, ↓setL_1, ↓setL_2, ↓reduceIte, ↓List.set_cons_zero, ↓List.set_cons_succ, List.cons_append, List.nil_append, List.append_nil, decide_eq_true_eq, Bool.not_eq_true', decide_eq_false_iff_not, List.length_cons, List.length_nil, upd_upd]
              refine ⟨by decide, fun p1 hp1 => ?_⟩
              have s2 := new (o := .lst [.int sm]) s1 hp1
              have np : p ≠ p1 := ne_of_none upd_same hp1
              unfold tPairs
              refine ⟨by rw [upd_ne np, upd_same], [(Sum.inr (Str.ofString "a"), .ref p1)], rfl, (by show 1 ≤ 15; decide), ?_⟩
              refine kk _ _ (fun c o e => ?_) ⟨.inr ⟨p, rfl, .inr (.inl ⟨_, upd_same, ?_, fun q hq => ?_⟩)⟩, nob (fun _ _ e => e) hp⟩
              · rw [upd_ne (ne_of_none e hp)]
                exact s2 c o e
              · show ([Sum.inr (Str.ofString "a")] : List Key).Nodup
                simp
              · have e : q = (Sum.inr (Str.ofString "a"), V.ref p1) := by
                  have hq' : q ∈ [((Sum.inr (Str.ofString "a") : Key), V.ref p1)] := hq
                  simpa using hq'
                subst e
                exact ⟨rfl, .inr ⟨_, rfl⟩⟩
            · refine ⟨.int sm, rfl, .int sm, rfl, fun a H2 ha sa E => ?_⟩
              obtain ⟨d, e1, e2⟩ := E
              exact kk _ _ sa ⟨.inr ⟨a, rfl, .inr (.inr ⟨cl 12, _, e1, T.cmp⟩)⟩, nob (fun _ _ e => e) ha⟩
end
end K00

set_option Elab.async false
set_option linter.all false
set_option maxRecDepth 100000
set_option maxHeartbeats 4000000
namespace K00
open PySem PySem.Spec L2 U
open PyProof.Rows hiding St
section
variable {P : Program} {w : World} {K : PySem.W.Frag} {mg : Str → Option Value} {base : Heap} {cl : Nat → Addr} {cM cT : Addr}
theorem add_lists {a b : Addr} {xs ys : List V} {H : Hp} {Q : VK} (ha : H a = some (.lst xs)) (hb : H b = some (.lst ys)) (h : xs.length + ys.length ≤ sizeLine ∧ ∀ p, H p = none → Q (.ref p) (upd H p (.lst (xs ++ ys)))) : rAddU (.ref a) (.ref b) H Q := by
  rw [rAddU_l ha hb]
  exact h
theorem same_new {H : Hp} {p : Addr} {o : HO} (hp : H p = none) : Same H (upd H p o) := fun c u e => by
  rw [upd_ne (ne_of_none e hp)]
  exact e
theorem keep_new {H : Hp} {p c : Addr} {o u : HO} (hp : H p = none) (e : H c = some u) : upd H p o c = some u := same_new hp _ _ e
/-- one more isinstance(x, C) in a row -/
theorem is_cons {σ : L2.St} {H : Hp} {a c : Addr} {t : Value} {b : Bool} {r : TA} {Q : List V → Hp → Prop} (h0 : σ[0]? = some (some (.ref a))) (ty : TyE K H (.ref a) t) (h : PySem.W.kitOne K t (.ref c) = some b)
    (q : r σ H fun vs H2 => Q (.bl b :: vs) H2) : tCons (tCB (rIsE' K) (tCons (tVar 0) (tCons (tC (.ref c)) tNil))) r σ H Q :=
  ⟨.ref a, h0, .ref a, .ref c, t, .ref c, b, rfl, .own c, ty, h, q⟩
theorem IsN.ty {H : Hp} {a n : Nat} (T : Ers P w K mg base cl cM cT) (hn : n < 23) (h : IsN K cl H a n) : TyE K H (.ref a) (.ref (cl n)) := by
  rcases h with ⟨fs, h⟩ | h
  · exact .inr ⟨a, cl n, fs, rfl, rfl, T.k n hn, .inl h⟩
  · exact .inr ⟨a, cl n, [], rfl, rfl, T.k n hn, .inr h⟩
theorem IsN.keep {H H' : Hp} {a n : Nat} (h : IsN K cl H a n) (s : Same H H') : IsN K cl H' a n := by
  rcases h with ⟨fs, h⟩ | h
  · exact .inl ⟨fs, h.keep s⟩
  · exact .inr (s _ _ h)
def tld (n : Nat) (k : Nat) : List Bool := (List.range k).map fun i => decide (i = n)
theorem can_bools : ∀ bs : List Bool, PyData.canLayAll0 (bs.map PyData.bool) = true
  | [] => rfl
  | _ :: r => by simp [PyData.canLayAll0, PyData.canLay0, can_bools r]
theorem depth_bools : ∀ bs : List Bool, PyData.depthAll (bs.map PyData.bool) = 0
  | [] => rfl
  | _ :: r => by simp [PyData.depthAll, PyData.depth, depth_bools r]
theorem shaped_bools (bs : List Bool) : SeqAt.shaped (.list (bs.map PyData.bool)) = true := by
  simp [SeqAt.shaped, PyData.canLay0, PyData.depth, can_bools, depth_bools]
theorem one_end {n a : Nat} {H H7 : Hp} {Q : VK} (T : Ers P w K mg base cl cM cT) (hn : n < 23) (tk : ∀ {H' : Hp}, Same H H' → TyE K H' (.ref a) (.ref (cl n))) (s7 : Same H H7) (k : ∀ H', Same H H' → Q (.bl true) H') :
    rIsE' K [V.ref a, V.ref cT] H7 fun x H' => asB x H' fun c H1 => if c = false then Q (V.bl false) H1 else
      rIsE' K [V.ref a, V.ty "ValueError"] H1 fun x H' => asB x H' fun c H1 => if c = false then Q (V.bl false) H1 else
        0 + 1 + 1 + 1 + 1 + 1 ≤ sizeLine ∧ ∀ (p : Addr), H1 p = none →
          rIsTE K [V.ref a, V.ref p] (upd H1 p (HO.tup [V.ty "LookupError", V.ty "TypeError", V.ty "ArithmeticError", V.ty "AttributeError", V.ty "RuntimeError"])) fun x H1 => asB x H1 fun c H2 => Q (V.bl !c) H2 := by
  refine ⟨.ref a, .ref cT, _, .ref cT, _, rfl, .own cT, tk s7, T.kitT n hn, ?_⟩
  simp only [↓asB_bl, Bool.true_eq_false, ↓reduceIte]
  refine ⟨.ref a, .ty "ValueError", _, _, _, rfl, .ty _, tk s7, T.kitV n hn, ?_⟩
  simp only [↓asB_bl, Bool.true_eq_false, ↓reduceIte]
  refine ⟨by decide, fun p hp => ?_⟩
  refine ⟨.ref a, p, _, _, [.type "LookupError", .type "TypeError", .type "ArithmeticError", .type "AttributeError", .type "RuntimeError"], _, rfl, upd_same, ?_, tk (s7.trans (same_new hp)), T.kitB n hn, ?_⟩
  · exact .cons (.ty _) (.cons (.ty _) (.cons (.ty _) (.cons (.ty _) (.cons (.ty _) .nil))))
  · exact k _ (s7.trans (same_new hp))
theorem ok_is_one {f : Addr} {fd : FuncData} (B : Blt mg) (T : Ers P w K mg base cl cM cT)
    (F : Fun K "_law_is_one" "_law_is_one" s_law_is_one f fd) : FnOk P w K mg base CX0 1 f fd ["_law_error", "_law_number"] (spIsOne K cl) := by
  refine F.ok sc_is_one (fun vs H Q E h => ?_) (fun cdv A outer s H vs Q E hr h => ?_)
  · obtain ⟨a, n, rfl, _⟩ := h
    rfl
  · obtain ⟨a, n, rfl, hn, ty, k⟩ := h
    have nd := sc_is_one.nd
    refine ⟨_, (pss_cons (ps_set (i := 2) nd rfl (Or.inl rfl) (pe_lst (pa_cons (pe_callB call_isE' (by rfl) B.isinstance (by decide +kernel) (pa_cons (pv 0) (pa_cons (pe_glob (v := .ref (cl 0)) (by rfl) (T.m 0 (by decide)) rfl) pa_nil))) (pa_cons (pe_callB call_isE' (by rfl) B.isinstance (by decide +kernel) (pa_cons (pv 0) (pa_cons (pe_glob (v := .ref (cl 1)) (by rfl) (T.m 1 (by decide)) rfl) pa_nil))) (pa_cons (pe_callB call_isE' (by rfl) B.isinstance (by decide +kernel) (pa_cons (pv 0) (pa_cons (pe_glob (v := .ref (cl 2)) (by rfl) (T.m 2 (by decide)) rfl) pa_nil))) (pa_cons (pe_callB call_isE' (by rfl) B.isinstance (by decide +kernel) (pa_cons (pv 0) (pa_cons (pe_glob (v := .ref (cl 3)) (by rfl) (T.m 3 (by decide)) rfl) pa_nil))) pa_nil))))))
        (pss_cons (ps_set (i := 2) nd rfl (Or.inl rfl) (pe_op op_addU (pv 2) (pe_lst (pa_cons (pe_callB call_isE' (by rfl) B.isinstance (by decide +kernel) (pa_cons (pv 0) (pa_cons (pe_glob (v := .ref (cl 4)) (by rfl) (T.m 4 (by decide)) rfl) pa_nil))) (pa_cons (pe_callB call_isE' (by rfl) B.isinstance (by decide +kernel) (pa_cons (pv 0) (pa_cons (pe_glob (v := .ref (cl 5)) (by rfl) (T.m 5 (by decide)) rfl) pa_nil))) (pa_cons (pe_callB call_isE' (by rfl) B.isinstance (by decide +kernel) (pa_cons (pv 0) (pa_cons (pe_glob (v := .ref (cl 6)) (by rfl) (T.m 6 (by decide)) rfl) pa_nil))) pa_nil))))))
        (pss_cons (ps_set (i := 2) nd rfl (Or.inl rfl) (pe_op op_addU (pv 2) (pe_lst (pa_cons (pe_callB call_isE' (by rfl) B.isinstance (by decide +kernel) (pa_cons (pv 0) (pa_cons (pe_glob (v := .ref (cl 7)) (by rfl) (T.m 7 (by decide)) rfl) pa_nil))) (pa_cons (pe_callB call_isE' (by rfl) B.isinstance (by decide +kernel) (pa_cons (pv 0) (pa_cons (pe_glob (v := .ref (cl 8)) (by rfl) (T.m 8 (by decide)) rfl) pa_nil))) (pa_cons (pe_callB call_isE' (by rfl) B.isinstance (by decide +kernel) (pa_cons (pv 0) (pa_cons (pe_glob (v := .ref (cl 9)) (by rfl) (T.m 9 (by decide)) rfl) pa_nil))) (pa_cons (pe_callB call_isE' (by rfl) B.isinstance (by decide +kernel) (pa_cons (pv 0) (pa_cons (pe_glob (v := .ref (cl 10)) (by rfl) (T.m 10 (by decide)) rfl) pa_nil))) pa_nil)))))))
        (pss_cons (ps_set (i := 2) nd rfl (Or.inl rfl) (pe_op op_addU (pv 2) (pe_lst (pa_cons (pe_callB call_isE' (by rfl) B.isinstance (by decide +kernel) (pa_cons (pv 0) (pa_cons (pe_glob (v := .ref (cl 11)) (by rfl) (T.m 11 (by decide)) rfl) pa_nil))) (pa_cons (pe_callB call_isE' (by rfl) B.isinstance (by decide +kernel) (pa_cons (pv 0) (pa_cons (pe_glob (v := .ref (cl 12)) (by rfl) (T.m 12 (by decide)) rfl) pa_nil))) (pa_cons (pe_callB call_isE' (by rfl) B.isinstance (by decide +kernel) (pa_cons (pv 0) (pa_cons (pe_glob (v := .ref (cl 13)) (by rfl) (T.m 13 (by decide)) rfl) pa_nil))) (pa_cons (pe_callB call_isE' (by rfl) B.isinstance (by decide +kernel) (pa_cons (pv 0) (pa_cons (pe_glob (v := .ref (cl 14)) (by rfl) (T.m 14 (by decide)) rfl) pa_nil))) pa_nil)))))))
        (pss_cons (ps_set (i := 2) nd rfl (Or.inl rfl) (pe_op op_addU (pv 2) (pe_lst (pa_cons (pe_callB call_isE' (by rfl) B.isinstance (by decide +kernel) (pa_cons (pv 0) (pa_cons (pe_glob (v := .ref (cl 15)) (by rfl) (T.m 15 (by decide)) rfl) pa_nil))) (pa_cons (pe_callB call_isE' (by rfl) B.isinstance (by decide +kernel) (pa_cons (pv 0) (pa_cons (pe_glob (v := .ref (cl 16)) (by rfl) (T.m 16 (by decide)) rfl) pa_nil))) (pa_cons (pe_callB call_isE' (by rfl) B.isinstance (by decide +kernel) (pa_cons (pv 0) (pa_cons (pe_glob (v := .ref (cl 17)) (by rfl) (T.m 17 (by decide)) rfl) pa_nil))) (pa_cons (pe_callB call_isE' (by rfl) B.isinstance (by decide +kernel) (pa_cons (pv 0) (pa_cons (pe_glob (v := .ref (cl 18)) (by rfl) (T.m 18 (by decide)) rfl) pa_nil))) pa_nil)))))))
        (pss_cons (ps_set (i := 2) nd rfl (Or.inl rfl) (pe_op op_addU (pv 2) (pe_lst (pa_cons (pe_callB call_isE' (by rfl) B.isinstance (by decide +kernel) (pa_cons (pv 0) (pa_cons (pe_glob (v := .ref (cl 19)) (by rfl) (T.m 19 (by decide)) rfl) pa_nil))) (pa_cons (pe_callB call_isE' (by rfl) B.isinstance (by decide +kernel) (pa_cons (pv 0) (pa_cons (pe_glob (v := .ref (cl 20)) (by rfl) (T.m 20 (by decide)) rfl) pa_nil))) (pa_cons (pe_callB call_isE' (by rfl) B.isinstance (by decide +kernel) (pa_cons (pv 0) (pa_cons (pe_glob (v := .ref (cl 21)) (by rfl) (T.m 21 (by decide)) rfl) pa_nil))) (pa_cons (pe_callB call_isE' (by rfl) B.isinstance (by decide +kernel) (pa_cons (pv 0) (pa_cons (pe_glob (v := .ref (cl 22)) (by rfl) (T.m 22 (by decide)) rfl) pa_nil))) pa_nil)))))))
        (pss_cons (ps_if (pw_or (pt_cmpR (op_neD hr.units) (pv 2) (pe_lc (own := [("_law_spot", 3)]) (g := gName 3) (tt := tYes) rfl nd (pi_range1 (by rfl) B.range (pa_cons pe_int pa_nil)) (blkOk_by (N := ["_law_error", "_law_number", "_law_told", "_law_spot"]) (sc := defScope s_law_is_one) (by decide +kernel)) (fun _ _ _ _ _ => pg_name (i := 3) nd rfl (Or.inl rfl)) (fun _ _ _ _ _ => pts_nil) (fun _ _ _ _ _ => (pe_cmpR op_eq (pv 3) (pv 1) (nomark _)))) (nomark _)) (pw_or1 (pt_cmpR op_ne (pe_callB call_isE' (by rfl) B.isinstance (by decide +kernel) (pa_cons (pv 0) (pa_cons (pe_glob (v := .ref cM) (by rfl) T.mM rfl) pa_nil))) (pe_chain op_leU op_ltU pe_int (pv 1) pe_int) (nomark _)))).pt (pss_one (ps_ret pe_bl)) pss_nil)
        (pss_cons (ps_if (pw_or (pt_not (pt_val (pe_callB call_isE' (by rfl) B.isinstance (by decide +kernel) (pa_cons (pv 0) (pa_cons (pe_glob (v := .ref cT) (by rfl) T.mT rfl) pa_nil))))) (pw_or1 (pt_not (pt_val (pe_callB call_isE' (by rfl) B.isinstance (by decide +kernel) (pa_cons (pv 0) (pa_cons (pe_bltn (v := .ty "ValueError") (by rfl) B.ve (by decide +kernel) rfl) pa_nil))))))).pt (pss_one (ps_ret pe_bl)) pss_nil)
        (pss_one (ps_ret (pe_not (pe_callB call_isTE (by rfl) B.isinstance (by decide +kernel) (pa_cons (pv 0) (pa_cons (pe_tup (pa_cons (pe_bltn (v := .ty "LookupError") (by rfl) B.le (by decide +kernel) rfl) (pa_cons (pe_bltn (v := .ty "TypeError") (by rfl) B.te (by decide +kernel) rfl) (pa_cons (pe_bltn (v := .ty "ArithmeticError") (by rfl) B.ae (by decide +kernel) rfl) (pa_cons (pe_bltn (v := .ty "AttributeError") (by rfl) B.atE (by decide +kernel) rfl) (pa_cons (pe_bltn (v := .ty "RuntimeError") (by rfl) B.reE (by decide +kernel) rfl) pa_nil)))))) pa_nil)))))))))))))), ?_⟩
    have t0 := ty.ty T hn
    have tk : ∀ {H' : Hp}, Same H H' → TyE K H' (.ref a) (.ref (cl n)) := fun s => (ty.keep s).ty T hn
    have kt : ∀ i, i < 23 → PySem.W.kitOne K (.ref (cl n)) (.ref (cl i)) = some (decide (i = n)) := fun i hi => T.kit n i hn hi
    rw [show start ["_law_error", "_law_number", "_law_told", "_law_spot"] [V.ref a, V.int n] = [some (V.ref a), some (V.int n), none, none] from rfl]
    simp only [↓tSeq_ap, ↓tAsg_ap, ↓tLst_ap]
    refine is_cons rfl t0 (kt 0 (by decide)) ?_
    refine is_cons rfl t0 (kt 1 (by decide)) ?_
    refine is_cons rfl t0 (kt 2 (by decide)) ?_
    refine is_cons rfl t0 (kt 3 (by decide)) ?_
    refine ⟨by show 4 ≤ sizeLine; decide, fun p hp => ?_⟩
    obtain ⟨H1, e1, s1, q1⟩ : ∃ H1, upd H p (.lst [V.bl (decide (0 = n)), V.bl (decide (1 = n)), V.bl (decide (2 = n)), V.bl (decide (3 = n))]) = H1 ∧ Same H H1 ∧ H1 p = some (.lst [V.bl (decide (0 = n)), V.bl (decide (1 = n)), V.bl (decide (2 = n)), V.bl (decide (3 = n))]) := ⟨_, rfl, same_new hp, upd_same⟩
    rw [e1]
    refine ⟨_, rfl, ?_⟩
    refine is_cons rfl (tk s1) (kt 4 (by decide)) ?_
    refine is_cons rfl (tk s1) (kt 5 (by decide)) ?_
    refine is_cons rfl (tk s1) (kt 6 (by decide)) ?_
    refine ⟨by show 3 ≤ sizeLine; decide, fun r hr1 => ?_⟩
    have z1 := keep_new (o := .lst [V.bl (decide (4 = n)), V.bl (decide (5 = n)), V.bl (decide (6 = n))]) hr1 q1
    refine add_lists z1 upd_same ⟨by show 7 ≤ sizeLine; decide, fun p hp => ?_⟩
    obtain ⟨H2, e2, s2, q2⟩ : ∃ H', upd (upd H1 r (.lst [V.bl (decide (4 = n)), V.bl (decide (5 = n)), V.bl (decide (6 = n))])) p (.lst [V.bl (decide (0 = n)), V.bl (decide (1 = n)), V.bl (decide (2 = n)), V.bl (decide (3 = n)), V.bl (decide (4 = n)), V.bl (decide (5 = n)), V.bl (decide (6 = n))]) = H' ∧ Same H H' ∧ H' p = some (.lst [V.bl (decide (0 = n)), V.bl (decide (1 = n)), V.bl (decide (2 = n)), V.bl (decide (3 = n)), V.bl (decide (4 = n)), V.bl (decide (5 = n)), V.bl (decide (6 = n))]) := ⟨_, rfl, (s1.trans (same_new hr1)).trans (same_new hp), upd_same⟩
    simp only [List.cons_append, List.nil_append]
    rw [e2]
    refine ⟨_, rfl, ?_⟩
    refine is_cons rfl (tk s2) (kt 7 (by decide)) ?_
    refine is_cons rfl (tk s2) (kt 8 (by decide)) ?_
    refine is_cons rfl (tk s2) (kt 9 (by decide)) ?_
    refine is_cons rfl (tk s2) (kt 10 (by decide)) ?_
    refine ⟨by show 4 ≤ sizeLine; decide, fun r hr2 => ?_⟩
    have z1 := keep_new (o := .lst [V.bl (decide (7 = n)), V.bl (decide (8 = n)), V.bl (decide (9 = n)), V.bl (decide (10 = n))]) hr2 q2
    refine add_lists z1 upd_same ⟨by show 11 ≤ sizeLine; decide, fun p hp => ?_⟩
    obtain ⟨H3, e3, s3, q3⟩ : ∃ H', upd (upd H2 r (.lst [V.bl (decide (7 = n)), V.bl (decide (8 = n)), V.bl (decide (9 = n)), V.bl (decide (10 = n))])) p (.lst [V.bl (decide (0 = n)), V.bl (decide (1 = n)), V.bl (decide (2 = n)), V.bl (decide (3 = n)), V.bl (decide (4 = n)), V.bl (decide (5 = n)), V.bl (decide (6 = n)), V.bl (decide (7 = n)), V.bl (decide (8 = n)), V.bl (decide (9 = n)), V.bl (decide (10 = n))]) = H' ∧ Same H H' ∧ H' p = some (.lst [V.bl (decide (0 = n)), V.bl (decide (1 = n)), V.bl (decide (2 = n)), V.bl (decide (3 = n)), V.bl (decide (4 = n)), V.bl (decide (5 = n)), V.bl (decide (6 = n)), V.bl (decide (7 = n)), V.bl (decide (8 = n)), V.bl (decide (9 = n)), V.bl (decide (10 = n))]) := ⟨_, rfl, (s2.trans (same_new hr2)).trans (same_new hp), upd_same⟩
    simp only [List.cons_append, List.nil_append]
    rw [e3]
    refine ⟨_, rfl, ?_⟩
    refine is_cons rfl (tk s3) (kt 11 (by decide)) ?_
    refine is_cons rfl (tk s3) (kt 12 (by decide)) ?_
    refine is_cons rfl (tk s3) (kt 13 (by decide)) ?_
    refine is_cons rfl (tk s3) (kt 14 (by decide)) ?_
    refine ⟨by show 4 ≤ sizeLine; decide, fun r hr3 => ?_⟩
    have z1 := keep_new (o := .lst [V.bl (decide (11 = n)), V.bl (decide (12 = n)), V.bl (decide (13 = n)), V.bl (decide (14 = n))]) hr3 q3
    refine add_lists z1 upd_same ⟨by show 15 ≤ sizeLine; decide, fun p hp => ?_⟩
    obtain ⟨H4, e4, s4, q4⟩ : ∃ H', upd (upd H3 r (.lst [V.bl (decide (11 = n)), V.bl (decide (12 = n)), V.bl (decide (13 = n)), V.bl (decide (14 = n))])) p (.lst [V.bl (decide (0 = n)), V.bl (decide (1 = n)), V.bl (decide (2 = n)), V.bl (decide (3 = n)), V.bl (decide (4 = n)), V.bl (decide (5 = n)), V.bl (decide (6 = n)), V.bl (decide (7 = n)), V.bl (decide (8 = n)), V.bl (decide (9 = n)), V.bl (decide (10 = n)), V.bl (decide (11 = n)), V.bl (decide (12 = n)), V.bl (decide (13 = n)), V.bl (decide (14 = n))]) = H' ∧ Same H H' ∧ H' p = some (.lst [V.bl (decide (0 = n)), V.bl (decide (1 = n)), V.bl (decide (2 = n)), V.bl (decide (3 = n)), V.bl (decide (4 = n)), V.bl (decide (5 = n)), V.bl (decide (6 = n)), V.bl (decide (7 = n)), V.bl (decide (8 = n)), V.bl (decide (9 = n)), V.bl (decide (10 = n)), V.bl (decide (11 = n)), V.bl (decide (12 = n)), V.bl (decide (13 = n)), V.bl (decide (14 = n))]) := ⟨_, rfl, (s3.trans (same_new hr3)).trans (same_new hp), upd_same⟩
    simp only [List.cons_append, List.nil_append]
    rw [e4]
    refine ⟨_, rfl, ?_⟩
    refine is_cons rfl (tk s4) (kt 15 (by decide)) ?_
    refine is_cons rfl (tk s4) (kt 16 (by decide)) ?_
    refine is_cons rfl (tk s4) (kt 17 (by decide)) ?_
    refine is_cons rfl (tk s4) (kt 18 (by decide)) ?_
    refine ⟨by show 4 ≤ sizeLine; decide, fun r hr4 => ?_⟩
    have z1 := keep_new (o := .lst [V.bl (decide (15 = n)), V.bl (decide (16 = n)), V.bl (decide (17 = n)), V.bl (decide (18 = n))]) hr4 q4
    refine add_lists z1 upd_same ⟨by show 19 ≤ sizeLine; decide, fun p hp => ?_⟩
    obtain ⟨H5, e5, s5, q5⟩ : ∃ H', upd (upd H4 r (.lst [V.bl (decide (15 = n)), V.bl (decide (16 = n)), V.bl (decide (17 = n)), V.bl (decide (18 = n))])) p (.lst [V.bl (decide (0 = n)), V.bl (decide (1 = n)), V.bl (decide (2 = n)), V.bl (decide (3 = n)), V.bl (decide (4 = n)), V.bl (decide (5 = n)), V.bl (decide (6 = n)), V.bl (decide (7 = n)), V.bl (decide (8 = n)), V.bl (decide (9 = n)), V.bl (decide (10 = n)), V.bl (decide (11 = n)), V.bl (decide (12 = n)), V.bl (decide (13 = n)), V.bl (decide (14 = n)), V.bl (decide (15 = n)), V.bl (decide (16 = n)), V.bl (decide (17 = n)), V.bl (decide (18 = n))]) = H' ∧ Same H H' ∧ H' p = some (.lst [V.bl (decide (0 = n)), V.bl (decide (1 = n)), V.bl (decide (2 = n)), V.bl (decide (3 = n)), V.bl (decide (4 = n)), V.bl (decide (5 = n)), V.bl (decide (6 = n)), V.bl (decide (7 = n)), V.bl (decide (8 = n)), V.bl (decide (9 = n)), V.bl (decide (10 = n)), V.bl (decide (11 = n)), V.bl (decide (12 = n)), V.bl (decide (13 = n)), V.bl (decide (14 = n)), V.bl (decide (15 = n)), V.bl (decide (16 = n)), V.bl (decide (17 = n)), V.bl (decide (18 = n))]) := ⟨_, rfl, (s4.trans (same_new hr4)).trans (same_new hp), upd_same⟩
    simp only [List.cons_append, List.nil_append]
    rw [e5]
    refine ⟨_, rfl, ?_⟩
    refine is_cons rfl (tk s5) (kt 19 (by decide)) ?_
    refine is_cons rfl (tk s5) (kt 20 (by decide)) ?_
    refine is_cons rfl (tk s5) (kt 21 (by decide)) ?_
    refine is_cons rfl (tk s5) (kt 22 (by decide)) ?_
    refine ⟨by show 4 ≤ sizeLine; decide, fun r hr5 => ?_⟩
    have z1 := keep_new (o := .lst [V.bl (decide (19 = n)), V.bl (decide (20 = n)), V.bl (decide (21 = n)), V.bl (decide (22 = n))]) hr5 q5
    refine add_lists z1 upd_same ⟨by show 23 ≤ sizeLine; decide, fun p hp => ?_⟩
    obtain ⟨H6, e6, s6, q6⟩ : ∃ H', upd (upd H5 r (.lst [V.bl (decide (19 = n)), V.bl (decide (20 = n)), V.bl (decide (21 = n)), V.bl (decide (22 = n))])) p (.lst [V.bl (decide (0 = n)), V.bl (decide (1 = n)), V.bl (decide (2 = n)), V.bl (decide (3 = n)), V.bl (decide (4 = n)), V.bl (decide (5 = n)), V.bl (decide (6 = n)), V.bl (decide (7 = n)), V.bl (decide (8 = n)), V.bl (decide (9 = n)), V.bl (decide (10 = n)), V.bl (decide (11 = n)), V.bl (decide (12 = n)), V.bl (decide (13 = n)), V.bl (decide (14 = n)), V.bl (decide (15 = n)), V.bl (decide (16 = n)), V.bl (decide (17 = n)), V.bl (decide (18 = n)), V.bl (decide (19 = n)), V.bl (decide (20 = n)), V.bl (decide (21 = n)), V.bl (decide (22 = n))]) = H' ∧ Same H H' ∧ H' p = some (.lst [V.bl (decide (0 = n)), V.bl (decide (1 = n)), V.bl (decide (2 = n)), V.bl (decide (3 = n)), V.bl (decide (4 = n)), V.bl (decide (5 = n)), V.bl (decide (6 = n)), V.bl (decide (7 = n)), V.bl (decide (8 = n)), V.bl (decide (9 = n)), V.bl (decide (10 = n)), V.bl (decide (11 = n)), V.bl (decide (12 = n)), V.bl (decide (13 = n)), V.bl (decide (14 = n)), V.bl (decide (15 = n)), V.bl (decide (16 = n)), V.bl (decide (17 = n)), V.bl (decide (18 = n)), V.bl (decide (19 = n)), V.bl (decide (20 = n)), V.bl (decide (21 = n)), V.bl (decide (22 = n))]) := ⟨_, rfl, (s5.trans (same_new hr5)).trans (same_new hp), upd_same⟩
    simp only [List.cons_append, List.nil_append]
    rw [e6]
    simp only [↓gName_ap, List.set_cons_zero, List.set_cons_succ, ↓tSeq_ap, ↓tIfS_ap, ↓tOr_ap, ↓tTest_ap, ↓tOp_ap, ↓tVar_0, ↓tVar_s]
    have q7 : H6 p = some (.lst ((tld n 23).map V.bl)) := q6
    clear q6 q5 q4 q3 q2 q1 e1 e2 e3 e4 e5 e6 z1
    refine ⟨23, rfl, by decide, by decide, fun D hD => lc_range (lo := 0) (Pv := fun i H' => H' = upd H6 D (.lst ((tld n i).map V.bl))) rfl (fun i H' hi e => ?_) (fun H' e => ?_)⟩
    · subst e
      refine ⟨rfl, ?_⟩
      show tOp rEq (tVar 3) (tVar 1) _ _ _
      simp only [List.map_cons, List.map_nil, wipe, List.set_cons_zero, List.set_cons_succ, ↓tOp_ap, ↓tVar_0, ↓tVar_s, ↓rEq_ii]
      refine ⟨_, upd_same, ?_, ?_⟩
      · rw [List.length_map, tld, List.length_map, List.length_range]
        have z : (23 : Int).toNat ≤ sizeLine := by decide
        omega
      · rw [upd_upd]
        have e : decide ((0 : Int) + (i : Int) = (n : Int)) = decide (i = n) := by
          refine decide_eq_decide.mpr ?_
          omega
        rw [e, tld, tld, List.range_succ, List.map_append, List.map_append]
        rfl
    · have e : H' = upd H6 D (.lst ((tld n 23).map V.bl)) := e
      subst e
      have np : p ≠ D := ne_of_none q7 hD
      have hq : (upd H6 D (.lst ((tld n 23).map V.bl))) p = some (.lst ((tld n 23).map V.bl)) := by rw [upd_ne np]; exact q7
      refine ⟨_, _, .lst (SqL.of hq) (dp_bools _), .lst (SqL.of upd_same) (dp_bools _), shaped_bools _, shaped_bools _, ?_⟩
      rw [SeqAt.eqv_refl _ (SeqAt.canLay_of_shaped (shaped_bools _))]
      have s7 : Same H (upd H6 D (.lst ((tld n 23).map V.bl))) := s6.trans (same_new hD)
      generalize upd H6 D (.lst ((tld n 23).map V.bl)) = H7 at s7
      clear hq hD np q7 s6 s5 s4 s3 s2 s1
      simp only [Bool.not_true, ↓asB_bl, Bool.false_eq_true, ↓reduceIte, ↓tVar_0, ↓tVar_s, ↓tC_ap, ↓tOp_ap, ↓tUn_ap, ↓asB_bl, ↓tTest_ap, ↓tB_ap, ↓tChain_ap, ↓tAnd_ap, ↓tOr_ap, ↓tNot_ap, ↓tNotV_ap, ↓tAndV_ap, ↓tOrV_ap, ↓tIf_ap, ↓tNil_ap, ↓tCons_ap, ↓tTup_ap, ↓tLst_ap, ↓tCB_ap, ↓tCall_ap, ↓tSeq_ap, ↓tNext_ap, ↓tBreak_ap, ↓tCont_ap, ↓tRet_ap, ↓tRetN_ap, ↓tDrop_ap, ↓tIfS_ap, ↓tAsg_ap, ↓gName_ap, ↓gSub_ap, ↓tPar_ap', ↓tPar3_ap', ↓two_ap, ↓three_ap, ↓rI2_ap, ↓rI20_ap, ↓rAddU_i, ↓rAddU_s, ↓rU_ap, ↓rIxU_l', ↓rIxU_t', ↓ixL_0, ↓ixL_1, ↓ixL_2, ↓ixL_3, ↓rEq_ii, ↓rNe_ii, ↓rEq_bb, ↓rNe_bb, ↓rIntU_i, ↓rIntU_b, ↓rAbsU_i, ↓rStrU_i, ↓rSetU_l', ↓setL_0, ↓setL_1, ↓setL_2, ↓reduceIte, ↓List.set_cons_zero, ↓List.set_cons_succ, List.cons_append, List.nil_append, List.append_nil, decide_eq_true_eq, Bool.not_eq_true', decide_eq_false_iff_not, List.length_cons, List.length_nil, upd_upd]
      refine ⟨.ref a, .ref cM, _, .ref cM, _, rfl, .own cM, tk s7, T.kitM n hn, ?_⟩
      simp only [↓tVar_0, ↓tVar_s, ↓tC_ap, ↓tOp_ap, ↓tUn_ap, ↓asB_bl, ↓tTest_ap, ↓tB_ap, ↓tChain_ap, ↓tAnd_ap, ↓tOr_ap, ↓tNot_ap, ↓tNotV_ap, ↓tAndV_ap, ↓tOrV_ap, ↓tIf_ap, ↓tNil_ap, ↓tCons_ap, ↓tTup_ap, ↓tLst_ap, ↓tCB_ap, ↓tCall_ap, ↓tSeq_ap, ↓tNext_ap, ↓tBreak_ap, ↓tCont_ap, ↓tRet_ap, ↓tRetN_ap, ↓tDrop_ap, ↓tIfS_ap, ↓tAsg_ap, ↓gName_ap, ↓gSub_ap, ↓tPar_ap', ↓tPar3_ap', ↓two_ap, ↓three_ap, ↓rI2_ap, ↓rI20_ap, ↓rAddU_i, ↓rAddU_s, ↓rU_ap, ↓rIxU_l', ↓rIxU_t', ↓ixL_0, ↓ixL_1, ↓ixL_2, ↓ixL_3, ↓rEq_ii, ↓rNe_ii, ↓rEq_bb, ↓rNe_bb, ↓rIntU_i, ↓rIntU_b, ↓rAbsU_i, ↓rStrU_i, ↓rSetU_l', ↓setL_0, ↓setL_1, ↓setL_2, ↓reduceIte, ↓List.set_cons_zero, ↓List.set_cons_succ, List.cons_append, List.nil_append, List.append_nil, decide_eq_true_eq, Bool.not_eq_true', decide_eq_false_iff_not, List.length_cons, List.length_nil, upd_upd]
      have c1 : ∀ (h : (12 : Int) ≤ (n : Int)), ¬ ((decide (12 ≤ n ∧ n < 17) == decide ((n : Int) < 17)) = false) := fun h => by
        have e : decide (12 ≤ n ∧ n < 17) = decide ((n : Int) < 17) := decide_eq_decide.mpr (by omega)
        rw [e]
        simp
      have c2 : ∀ (h : ¬ (12 : Int) ≤ (n : Int)), ¬ ((decide (12 ≤ n ∧ n < 17) == false) = false) := fun h => by
        have e : decide (12 ≤ n ∧ n < 17) = false := decide_eq_false (by omega)
        rw [e]
        simp
      refine ite2 (fun h => ?_) (fun h => ?_)
      · rw [if_neg (c1 h)]
        exact one_end T hn tk s7 k
      · rw [if_neg (c2 h)]
        exact one_end T hn tk s7 k
end
end K00

set_option Elab.async false
set_option linter.all false
set_option maxRecDepth 100000
set_option maxHeartbeats 4000000
namespace K00
open PySem PySem.Spec L2 U
open PyProof.Rows hiding St
section
variable {P : Program} {w : World} {K : PySem.W.Frag} {mg : Str → Option Value} {base : Heap} {cl : Nat → Addr} {cM cT : Addr}
/-- errors made in a row, of the field in the first local -/
def tErs (cl : Nat → Addr) : List Nat → TA
  | [] => tNil
  | n :: ns => tCons (tE1 (cl n) (fld n) (tCons (tVar 0) tNil)) (tErs cl ns)
def RowP (cl : Nat → Addr) (H : Hp) (v : V) (ns es : List Nat) : Prop := Paired (fun n a => ErrAt H a (cl n) [(fld n, v)]) ns es
theorem RowP.keep {H H' : Hp} {v : V} {ns es : List Nat} (h : RowP cl H v ns es) (s : Same H H') : RowP cl H' v ns es := by
  unfold RowP at h ⊢
  induction h with
  | nil => exact .nil
  | cons a _ ih => exact .cons (a.keep s) ih
theorem RowP.app {H : Hp} {v : V} {ns es ms fs : List Nat} (h : RowP cl H v ns es) (k : RowP cl H v ms fs) : RowP cl H v (ns ++ ms) (es ++ fs) := by
  unfold RowP at h k ⊢
  induction h with
  | nil => exact k
  | cons a _ ih => exact .cons a ih
theorem RowP.at {H : Hp} {v : V} {ns es : List Nat} (h : RowP cl H v ns es) : ∀ {i n : Nat}, ns[i]? = some n → ∃ a, es[i]? = some a ∧ ErrAt H a (cl n) [(fld n, v)] := by
  unfold RowP at h
  induction h with
  | nil =>
    intro i n e
    cases e
  | cons a _ ih =>
    intro i n e
    cases i with
    | zero =>
      cases e
      exact ⟨_, rfl, a⟩
    | succ i => exact ih e
theorem errs_read {σ : L2.St} {v : V} (h0 : σ[0]? = some (some v)) : ∀ (ns : List Nat) {H : Hp} {Q : List V → Hp → Prop}, (∀ es H', Same H H' → RowP cl H' v ns es → Q (es.map V.ref) H') → tErs cl ns σ H Q
  | [], H, Q, k => k [] H (fun _ _ e => e) .nil
  | n :: ns, H, Q, k => by
    refine ⟨v, h0, v, rfl, fun a H2 ha sa E => ?_⟩
    refine errs_read h0 ns fun es H3 s3 R => ?_
    exact k (a :: es) H3 (sa.trans s3) (.cons (E.keep s3) R)
theorem RowP.len {H : Hp} {v : V} {ns es : List Nat} (h : RowP cl H v ns es) : es.length = ns.length := (Paired.length h).symm
def spErrs (cl : Nat → Addr) : Sp := fun vs H Q _ => ∃ v, vs = [v] ∧ ∀ p es H', Same H H' → H p = none → H' p = some (.lst (es.map V.ref)) → RowP cl H' v (List.range 19) es → Q (.ref p) H'
theorem none_of {H H' : Hp} {p : Addr} (s : Same H H') (h : H' p = none) : H p = none := by
  cases e : H p with
  | none => rfl
  | some o =>
    rw [s p o e] at h
    cases h
theorem errs_new {σ : L2.St} {v : V} {ns : List Nat} {H : Hp} {Q : VK} (h0 : σ[0]? = some (some v)) (hl : ns.length ≤ sizeLine)
    (k : ∀ r fs H', Same H H' → H r = none → H' r = some (.lst (fs.map V.ref)) → RowP cl H' v ns fs → Q (.ref r) H') : tLst (tErs cl ns) σ H Q := by
  refine errs_read h0 ns fun es H1 s1 R1 => ⟨by rw [List.length_map, R1.len]; exact hl, fun r hr => ?_⟩
  exact k r es _ (s1.trans (same_new hr)) (none_of s1 hr) upd_same (R1.keep (same_new hr))
theorem errs_more {σ : L2.St} {v : V} {ns ms es : List Nat} {p : Addr} {H : Hp} {Q : VK} (h0 : σ[0]? = some (some v)) (h1 : σ[1]? = some (some (.ref p))) (hp : H p = some (.lst (es.map V.ref))) (R : RowP cl H v ns es)
    (hl : ns.length + ms.length ≤ sizeLine) (k : ∀ r fs H', Same H H' → H r = none → H' r = some (.lst (fs.map V.ref)) → RowP cl H' v (ns ++ ms) fs → Q (.ref r) H') : tOp rAddU (tVar 1) (tLst (tErs cl ms)) σ H Q := by
  refine ⟨.ref p, h1, errs_new h0 (by omega) fun r fs H1 s1 hr e1 R1 => ?_⟩
  have R0 := R.keep s1
  refine add_lists (s1 _ _ hp) e1 ⟨by rw [List.length_map, List.length_map, R0.len, R1.len]; exact hl, fun q hq => ?_⟩
  refine k q (es ++ fs) _ (s1.trans (same_new hq)) (none_of s1 hq) ?_ ((R0.app R1).keep (same_new hq))
  rw [upd_same, List.map_append]
theorem ok_by_place {f : Addr} {fd : FuncData} (B : Blt mg) (T : Ers P w K mg base cl cM cT)
    (F : Fun K "_law_by_place" "_law_by_place" s_law_by_place f fd) : FnOk P w K mg base CX0 3 f fd ["_law_field_here"] (spErrs cl) := by
  refine F.ok sc_by_place (fun vs H Q E h => ?_) (fun cdv A outer s H vs Q E hr h => ?_)
  · obtain ⟨v, rfl, _⟩ := h
    rfl
  · obtain ⟨v, rfl, k⟩ := h
    have nd := sc_by_place.nd
    refine ⟨_, (pss_cons (ps_set (i := 1) nd rfl (Or.inl rfl) (pe_lst (pa_cons (pe_e1 (T.er 0 (by decide)) hr (by decide) (by rfl) (pa_cons (pv 0) pa_nil) (monoCons monoV monoNil)) (pa_cons (pe_e1 (T.er 1 (by decide)) hr (by decide) (by rfl) (pa_cons (pv 0) pa_nil) (monoCons monoV monoNil)) (pa_cons (pe_e1 (T.er 2 (by decide)) hr (by decide) (by rfl) (pa_cons (pv 0) pa_nil) (monoCons monoV monoNil)) (pa_cons (pe_e1 (T.er 3 (by decide)) hr (by decide) (by rfl) (pa_cons (pv 0) pa_nil) (monoCons monoV monoNil)) (pa_cons (pe_e1 (T.er 4 (by decide)) hr (by decide) (by rfl) (pa_cons (pv 0) pa_nil) (monoCons monoV monoNil)) (pa_cons (pe_e1 (T.er 5 (by decide)) hr (by decide) (by rfl) (pa_cons (pv 0) pa_nil) (monoCons monoV monoNil)) pa_nil))))))))
        (pss_cons (ps_set (i := 1) nd rfl (Or.inl rfl) (pe_op op_addU (pv 1) (pe_lst (pa_cons (pe_e1 (T.er 6 (by decide)) hr (by decide) (by rfl) (pa_cons (pv 0) pa_nil) (monoCons monoV monoNil)) (pa_cons (pe_e1 (T.er 7 (by decide)) hr (by decide) (by rfl) (pa_cons (pv 0) pa_nil) (monoCons monoV monoNil)) (pa_cons (pe_e1 (T.er 8 (by decide)) hr (by decide) (by rfl) (pa_cons (pv 0) pa_nil) (monoCons monoV monoNil)) (pa_cons (pe_e1 (T.er 9 (by decide)) hr (by decide) (by rfl) (pa_cons (pv 0) pa_nil) (monoCons monoV monoNil)) (pa_cons (pe_e1 (T.er 10 (by decide)) hr (by decide) (by rfl) (pa_cons (pv 0) pa_nil) (monoCons monoV monoNil)) (pa_cons (pe_e1 (T.er 11 (by decide)) hr (by decide) (by rfl) (pa_cons (pv 0) pa_nil) (monoCons monoV monoNil)) pa_nil)))))))))
        (pss_one (ps_ret (pe_op op_addU (pv 1) (pe_lst (pa_cons (pe_e1 (T.er 12 (by decide)) hr (by decide) (by rfl) (pa_cons (pv 0) pa_nil) (monoCons monoV monoNil)) (pa_cons (pe_e1 (T.er 13 (by decide)) hr (by decide) (by rfl) (pa_cons (pv 0) pa_nil) (monoCons monoV monoNil)) (pa_cons (pe_e1 (T.er 14 (by decide)) hr (by decide) (by rfl) (pa_cons (pv 0) pa_nil) (monoCons monoV monoNil)) (pa_cons (pe_e1 (T.er 15 (by decide)) hr (by decide) (by rfl) (pa_cons (pv 0) pa_nil) (monoCons monoV monoNil)) (pa_cons (pe_e1 (T.er 16 (by decide)) hr (by decide) (by rfl) (pa_cons (pv 0) pa_nil) (monoCons monoV monoNil)) (pa_cons (pe_e1 (T.er 17 (by decide)) hr (by decide) (by rfl) (pa_cons (pv 0) pa_nil) (monoCons monoV monoNil)) (pa_cons (pe_e1 (T.er 18 (by decide)) hr (by decide) (by rfl) (pa_cons (pv 0) pa_nil) (monoCons monoV monoNil)) pa_nil))))))))))))), ?_⟩
    rw [show start ["_law_field_here", "_law_made"] [v] = [some v, none] from rfl]
    simp only [↓tSeq_ap, ↓tAsg_ap]
    refine errs_new (cl := cl) (σ := [some v, none]) (v := v) (ns := [0, 1, 2, 3, 4, 5]) rfl (by decide) fun p1 e1 H1 s1 n1 l1 R1 => ?_
    try simp only [↓gName_ap, List.set_cons_zero, List.set_cons_succ, ↓tRet_ap, ↓tSeq_ap, ↓tAsg_ap]
    refine errs_more (cl := cl) (σ := [some v, some (.ref p1)]) (v := v) (ns := [0, 1, 2, 3, 4, 5]) (ms := [6, 7, 8, 9, 10, 11]) rfl rfl l1 R1 (by decide) fun p2 e2 H2 s2 n2 l2 R2 => ?_
    try simp only [↓gName_ap, List.set_cons_zero, List.set_cons_succ, ↓tRet_ap, ↓tRet_ap]
    refine errs_more (cl := cl) (σ := [some v, some (.ref p2)]) (v := v) (ns := [0, 1, 2, 3, 4, 5] ++ [6, 7, 8, 9, 10, 11]) (ms := [12, 13, 14, 15, 16, 17, 18]) rfl rfl l2 R2 (by decide) fun p3 e3 H3 s3 n3 l3 R3 => ?_
    exact k p3 e3 H3 ((s1.trans s2).trans s3) (none_of (s1.trans s2) n3) l3 R3
theorem ok_by_name {f : Addr} {fd : FuncData} (B : Blt mg) (T : Ers P w K mg base cl cM cT)
    (F : Fun K "_law_by_name" "_law_by_name" s_law_by_name f fd) : FnOk P w K mg base CX0 3 f fd ["_law_field_here"] (spErrs cl) := by
  refine F.ok sc_by_name (fun vs H Q E h => ?_) (fun cdv A outer s H vs Q E hr h => ?_)
  · obtain ⟨v, rfl, _⟩ := h
    rfl
  · obtain ⟨v, rfl, k⟩ := h
    have nd := sc_by_name.nd
    refine ⟨_, (pss_cons (ps_set (i := 1) nd rfl (Or.inl rfl) (pe_lst (pa_cons (pe_e1k (T.er 0 (by decide)) hr (by decide) (by rfl) (pk_cons (pv 0) pk_nil) (monoCons monoV monoNil)) (pa_cons (pe_e1k (T.er 1 (by decide)) hr (by decide) (by rfl) (pk_cons (pv 0) pk_nil) (monoCons monoV monoNil)) (pa_cons (pe_e1k (T.er 2 (by decide)) hr (by decide) (by rfl) (pk_cons (pv 0) pk_nil) (monoCons monoV monoNil)) (pa_cons (pe_e1k (T.er 3 (by decide)) hr (by decide) (by rfl) (pk_cons (pv 0) pk_nil) (monoCons monoV monoNil)) (pa_cons (pe_e1k (T.er 4 (by decide)) hr (by decide) (by rfl) (pk_cons (pv 0) pk_nil) (monoCons monoV monoNil)) pa_nil)))))))
        (pss_cons (ps_set (i := 1) nd rfl (Or.inl rfl) (pe_op op_addU (pv 1) (pe_lst (pa_cons (pe_e1k (T.er 5 (by decide)) hr (by decide) (by rfl) (pk_cons (pv 0) pk_nil) (monoCons monoV monoNil)) (pa_cons (pe_e1k (T.er 6 (by decide)) hr (by decide) (by rfl) (pk_cons (pv 0) pk_nil) (monoCons monoV monoNil)) (pa_cons (pe_e1k (T.er 7 (by decide)) hr (by decide) (by rfl) (pk_cons (pv 0) pk_nil) (monoCons monoV monoNil)) (pa_cons (pe_e1k (T.er 8 (by decide)) hr (by decide) (by rfl) (pk_cons (pv 0) pk_nil) (monoCons monoV monoNil)) pa_nil)))))))
        (pss_cons (ps_set (i := 1) nd rfl (Or.inl rfl) (pe_op op_addU (pv 1) (pe_lst (pa_cons (pe_e1k (T.er 9 (by decide)) hr (by decide) (by rfl) (pk_cons (pv 0) pk_nil) (monoCons monoV monoNil)) (pa_cons (pe_e1k (T.er 10 (by decide)) hr (by decide) (by rfl) (pk_cons (pv 0) pk_nil) (monoCons monoV monoNil)) (pa_cons (pe_e1k (T.er 11 (by decide)) hr (by decide) (by rfl) (pk_cons (pv 0) pk_nil) (monoCons monoV monoNil)) (pa_cons (pe_e1k (T.er 12 (by decide)) hr (by decide) (by rfl) (pk_cons (pv 0) pk_nil) (monoCons monoV monoNil)) (pa_cons (pe_e1k (T.er 13 (by decide)) hr (by decide) (by rfl) (pk_cons (pv 0) pk_nil) (monoCons monoV monoNil)) pa_nil))))))))
        (pss_one (ps_ret (pe_op op_addU (pv 1) (pe_lst (pa_cons (pe_e1k (T.er 14 (by decide)) hr (by decide) (by rfl) (pk_cons (pv 0) pk_nil) (monoCons monoV monoNil)) (pa_cons (pe_e1k (T.er 15 (by decide)) hr (by decide) (by rfl) (pk_cons (pv 0) pk_nil) (monoCons monoV monoNil)) (pa_cons (pe_e1k (T.er 16 (by decide)) hr (by decide) (by rfl) (pk_cons (pv 0) pk_nil) (monoCons monoV monoNil)) (pa_cons (pe_e1k (T.er 17 (by decide)) hr (by decide) (by rfl) (pk_cons (pv 0) pk_nil) (monoCons monoV monoNil)) (pa_cons (pe_e1k (T.er 18 (by decide)) hr (by decide) (by rfl) (pk_cons (pv 0) pk_nil) (monoCons monoV monoNil)) pa_nil)))))))))))), ?_⟩
    rw [show start ["_law_field_here", "_law_made"] [v] = [some v, none] from rfl]
    simp only [↓tSeq_ap, ↓tAsg_ap]
    refine errs_new (cl := cl) (σ := [some v, none]) (v := v) (ns := [0, 1, 2, 3, 4]) rfl (by decide) fun p1 e1 H1 s1 n1 l1 R1 => ?_
    try simp only [↓gName_ap, List.set_cons_zero, List.set_cons_succ, ↓tRet_ap, ↓tSeq_ap, ↓tAsg_ap]
    refine errs_more (cl := cl) (σ := [some v, some (.ref p1)]) (v := v) (ns := [0, 1, 2, 3, 4]) (ms := [5, 6, 7, 8]) rfl rfl l1 R1 (by decide) fun p2 e2 H2 s2 n2 l2 R2 => ?_
    try simp only [↓gName_ap, List.set_cons_zero, List.set_cons_succ, ↓tRet_ap, ↓tSeq_ap, ↓tAsg_ap]
    refine errs_more (cl := cl) (σ := [some v, some (.ref p2)]) (v := v) (ns := [0, 1, 2, 3, 4] ++ [5, 6, 7, 8]) (ms := [9, 10, 11, 12, 13]) rfl rfl l2 R2 (by decide) fun p3 e3 H3 s3 n3 l3 R3 => ?_
    try simp only [↓gName_ap, List.set_cons_zero, List.set_cons_succ, ↓tRet_ap, ↓tRet_ap]
    refine errs_more (cl := cl) (σ := [some v, some (.ref p3)]) (v := v) (ns := [0, 1, 2, 3, 4] ++ [5, 6, 7, 8] ++ [9, 10, 11, 12, 13]) (ms := [14, 15, 16, 17, 18]) rfl rfl l3 R3 (by decide) fun p4 e4 H4 s4 n4 l4 R4 => ?_
    exact k p4 e4 H4 (((s1.trans s2).trans s3).trans s4) (none_of ((s1.trans s2).trans s3) n4) l4 R4
def spKept (K : PySem.W.Frag) (cl : Nat → Addr) : Sp := fun vs H Q _ => ∃ (a n : Nat) (v : V), vs = [.ref a, .int (n : Int)] ∧ n < 19 ∧ ErrAt H a (cl n) [(fld n, v)] ∧ Q v H
theorem ok_kept {f : Addr} {fd : FuncData} (B : Blt mg) (T : Ers P w K mg base cl cM cT)
    (F : Fun K "_law_kept" "_law_kept" s_law_kept f fd) : FnOk P w K mg base CX0 1 f fd ["_law_error", "_law_number"] (spKept K cl) := by
  refine F.ok sc_kept (fun vs H Q E h => ?_) (fun cdv A outer s H vs Q E hr h => ?_)
  · obtain ⟨a, n, v, rfl, _⟩ := h
    rfl
  · obtain ⟨a, n, v, rfl, hn, ha, k⟩ := h
    have nd := sc_kept.nd
    refine ⟨_, (pss_cons (ps_if (pt_cmpR op_ltU (pv 1) pe_int (nomark _)) (pss_one (ps_ret (pe_erF (pv 0)))) pss_nil)
        (pss_one (ps_ret (pe_ifExp (pt_cmpR op_ltU (pv 1) pe_int (nomark _)) (pe_erF (pv 0)) (pe_erF (pv 0)))))), ?_⟩
    rw [show start ["_law_error", "_law_number"] [.ref a, .int (n : Int)] = [some (.ref a), some (.int (n : Int))] from rfl]
    have t := T.er n hn
    simp only [↓tVar_0, ↓tVar_s, ↓tC_ap, ↓tOp_ap, ↓tUn_ap, ↓asB_bl, ↓tTest_ap, ↓tB_ap, ↓tChain_ap, ↓tAnd_ap, ↓tOr_ap, ↓tNot_ap, ↓tNotV_ap, ↓tAndV_ap, ↓tOrV_ap, ↓tIf_ap, ↓tNil_ap, ↓tCons_ap, ↓tTup_ap, ↓tLst_ap, ↓tCB_ap, ↓tCall_ap, ↓tSeq_ap, ↓tNext_ap, ↓tBreak_ap, ↓tCont_ap, ↓tRet_ap, ↓tRetN_ap, ↓tDrop_ap, ↓tIfS_ap, ↓tAsg_ap, ↓gName_ap, ↓gSub_ap, ↓tPar_ap', ↓tPar3_ap', ↓two_ap, ↓three_ap, ↓rI2_ap, ↓rI20_ap, ↓rAddU_i, ↓rAddU_s, ↓rU_ap, ↓rIxU_l', ↓rIxU_t', ↓ixL_0, ↓ixL_1, ↓ixL_2, ↓ixL_3, ↓rEq_ii, ↓rNe_ii, ↓rEq_bb, ↓rNe_bb, ↓rIntU_i, ↓rIntU_b, ↓rAbsU_i, ↓rStrU_i, ↓rSetU_l', ↓setL_0, ↓setL_1, ↓setL_2, ↓reduceIte, ↓List.set_cons_zero, ↓List.set_cons_succ, List.cons_append, List.nil_append, List.append_nil, decide_eq_true_eq, Bool.not_eq_true', decide_eq_false_iff_not, List.length_cons, List.length_nil, upd_upd]
    refine ite2 (fun e => ?_) (fun e => ?_)
    · have e1 : fld n = "part" := by unfold fld; rw [if_pos (by omega)]
      rw [e1] at ha t
      exact ⟨_, rfl, a, cl n, _, v, rfl, ha, t.k, t.nf, rfl, k⟩
    · refine ite2 (fun e2 => ?_) (fun e2 => ?_)
      · have e1 : fld n = "value" := by unfold fld; rw [if_neg (by omega), if_pos (by omega)]
        rw [e1] at ha t
        exact ⟨_, rfl, a, cl n, _, v, rfl, ha, t.k, t.nf, rfl, k⟩
      · have e1 : fld n = "paper" := by unfold fld; rw [if_neg (by omega), if_neg (by omega)]
        rw [e1] at ha t
        exact ⟨_, rfl, a, cl n, _, v, rfl, ha, t.k, t.nf, rfl, k⟩
end
end K00

set_option Elab.async false
set_option linter.all false
set_option maxRecDepth 100000
set_option maxHeartbeats 4000000
namespace K00
open PySem PySem.Spec L2 U
open PyProof.Rows hiding St
section
variable {P : Program} {w : World} {K : PySem.W.Frag} {mg : Str → Option Value} {base : Heap} {cl : Nat → Addr} {cM cT : Addr}
def spRaised (cl : Nat → Addr) : Sp := fun vs H _ E => ∃ (n : Nat) (v : V), vs = [.int (n : Int), v] ∧ n < 3 ∧ ∀ d H', H d = none → Same H H' →
  (n = 0 → H' d = some (.xd [("value", v)]) → E (.ref (cl 13)) (some d) H') ∧ (n = 1 → H' d = some (.xd [("value", v)]) → E (.ref (cl 17)) (some d) H') ∧ (n = 2 → H' d = some (.xd [("most", .int 5), ("what", v)]) → E (.ref (cl 19)) (some d) H')
theorem ok_raised {f : Addr} {fd : FuncData} (B : Blt mg) (T : Ers P w K mg base cl cM cT)
    (F : Fun K "_law_raised" "_law_raised" s_law_raised f fd) : FnOk P w K mg base (L2.CX P w) 3 f fd ["_law_number", "_law_field_here"] (spRaised cl) := by
  refine F.okX sc_raised (fun vs H Q E h => ?_) (fun cdv A outer s H vs Q E hr h => ?_)
  · obtain ⟨n, v, rfl, _⟩ := h
    rfl
  · obtain ⟨n, v, rfl, hn, k⟩ := h
    have nd := sc_raised.nd
    have tk : Takes (cxOf (L2.CX P w) P w K mg base ["_law_number", "_law_field_here"] "_law_raised" (defScope s_law_raised) f cdv A outer s H E) (fun cls d _ H => E cls d H) := takes_of rfl rfl rfl rfl
    refine ⟨_, (pss_cons (ps_if (pt_cmpR op_eq (pv 0) pe_int (nomark _)) (pss_one (ps_r1 (T.er 13 (by decide)) rfl tk hr (by decide) (by rfl) (pa_cons (pv 1) pa_nil) (monoCons monoV monoNil))) pss_nil)
        (pss_cons (ps_if (pt_cmpR op_eq (pv 0) pe_int (nomark _)) (pss_one (ps_r1 (T.er 17 (by decide)) rfl tk hr (by decide) (by rfl) (pa_cons (pv 1) pa_nil) (monoCons monoV monoNil))) pss_nil)
        (pss_one (ps_r2 T.e19 rfl tk hr (by decide) (by rfl) (pa_cons (pv 1) (pa_cons pe_int pa_nil)) (monoCons monoV (monoCons monoC monoNil)))))), ?_⟩
    rw [show start ["_law_number", "_law_field_here"] [.int (n : Int), v] = [some (.int (n : Int)), some v] from rfl]
    simp only [↓tVar_0, ↓tVar_s, ↓tC_ap, ↓tOp_ap, ↓tUn_ap, ↓asB_bl, ↓tTest_ap, ↓tB_ap, ↓tChain_ap, ↓tAnd_ap, ↓tOr_ap, ↓tNot_ap, ↓tNotV_ap, ↓tAndV_ap, ↓tOrV_ap, ↓tIf_ap, ↓tNil_ap, ↓tCons_ap, ↓tTup_ap, ↓tLst_ap, ↓tCB_ap, ↓tCall_ap, ↓tSeq_ap, ↓tNext_ap, ↓tBreak_ap, ↓tCont_ap, ↓tRet_ap, ↓tRetN_ap, ↓tDrop_ap, ↓tIfS_ap, ↓tAsg_ap, ↓gName_ap, ↓gSub_ap, ↓tPar_ap', ↓tPar3_ap', ↓two_ap, ↓three_ap, ↓rI2_ap, ↓rI20_ap, ↓rAddU_i, ↓rAddU_s, ↓rU_ap, ↓rIxU_l', ↓rIxU_t', ↓ixL_0, ↓ixL_1, ↓ixL_2, ↓ixL_3, ↓rEq_ii, ↓rNe_ii, ↓rEq_bb, ↓rNe_bb, ↓rIntU_i, ↓rIntU_b, ↓rAbsU_i, ↓rStrU_i, ↓rSetU_l', ↓setL_0, ↓setL_1, ↓setL_2, ↓reduceIte, ↓List.set_cons_zero, ↓List.set_cons_succ, List.cons_append, List.nil_append, List.append_nil, decide_eq_true_eq, Bool.not_eq_true', decide_eq_false_iff_not, List.length_cons, List.length_nil, upd_upd]
    refine ite2 (fun e => ⟨v, rfl, v, rfl, fun d H2 hd sa h => (k d H2 hd sa).1 (by omega) h⟩) (fun e => ?_)
    refine ite2 (fun e1 => ⟨v, rfl, v, rfl, fun d H2 hd sa h => (k d H2 hd sa).2.1 (by omega) h⟩) (fun e1 => ?_)
    exact ⟨v, rfl, v, _, rfl, fun d H2 hd sa h => (k d H2 hd sa).2.2 (by omega) h⟩
/-- which clause takes which class -/
structure Exm (K : PySem.W.Frag) (cl : Nat → Addr) (cM cT : Addr) : Prop where
  a : PySem.W.exmOne K (.ref (cl 13)) (.ref cM) = some true
  b0 : PySem.W.exmOne K (.ref (cl 17)) (.ref cM) = some false
  b1 : PySem.W.exmOne K (.ref (cl 17)) (.ref (cl 17)) = some true
  c0 : PySem.W.exmOne K (.ref (cl 19)) (.ref cM) = some false
  c1 : PySem.W.exmOne K (.ref (cl 19)) (.ref (cl 17)) = some false
  c2 : PySem.W.exmOne K (.ref (cl 19)) (.ref cT) = some true
def word : Nat → Str
  | 0 => "missing"
  | 1 => "twice"
  | _ => "thin"
def spCaught : Sp := fun vs H Q _ => ∃ (n : Nat) (v : V), vs = [.int (n : Int), v] ∧ n < 3 ∧ ∀ p H', Same H H' → H p = none → H' p = some (.tup [.str (word n), v]) → Q (.ref p) H'
theorem ok_caught {f : Addr} {fd : FuncData} (B : Blt mg) (T : Ers P w K mg base cl cM cT) (M : Exm K cl cM cT) (O_raised : Ok P w K mg base (L2.CX P w) "_law_raised" 3 ["_law_number", "_law_field_here"] (spRaised cl))
    (F : Fun K "_law_caught" "_law_caught" s_law_caught f fd) : FnOk P w K mg base CX0 4 f fd ["_law_number", "_law_field_here"] spCaught := by
  refine F.ok sc_caught (fun vs H Q E h => ?_) (fun cdv A outer s H vs Q E hr h => ?_)
  · obtain ⟨n, v, rfl, _⟩ := h
    rfl
  · obtain ⟨n, v, rfl, hn, k⟩ := h
    have nd := sc_caught.nd
    refine ⟨_, (pss_cons (ps_try_manyAs (i := 2) rfl rfl nd rfl rfl takes0 (fun W pn xe tk _ => (pss_one (ps_expr (pe_callW O_raised (hr.mono (by decide)) (by rfl) tk (pa_cons (pv 0) (pa_cons (pv 1) pa_nil)))))) (.cons ⟨by rfl, by decide, .inl T.mM⟩ (fun a oe cls d pn hz hf => (pss_one (ps_ret (pe_tup (pa_cons pe_str (pa_cons (pe_xf (T.k 13 (by decide)).xf (T.er 13 (by decide)).nf hz hf (pv 2)) pa_nil)))))) (.cons ⟨by rfl, by decide, .inl (T.m 17 (by decide))⟩ (fun a oe cls d pn hz hf => (pss_one (ps_ret (pe_tup (pa_cons pe_str (pa_cons (pe_xf (T.k 17 (by decide)).xf (T.er 17 (by decide)).nf hz hf (pv 2)) pa_nil)))))) (.cons ⟨by rfl, by decide, .inl T.mT⟩ (fun a oe cls d pn hz hf => (pss_one (ps_ret (pe_tup (pa_cons pe_str (pa_cons (pe_xf (T.k 19 (by decide)).xf T.e19.nf hz hf (pv 2)) pa_nil)))))) .nil))))
        (pss_one (ps_ret pe_non))), ?_⟩
    rw [show start ["_law_number", "_law_field_here", "caught"] [.int (n : Int), v] = [some (.int (n : Int)), some v, none] from rfl]
    simp only [↓tVar_0, ↓tVar_s, ↓tC_ap, ↓tOp_ap, ↓tUn_ap, ↓asB_bl, ↓tTest_ap, ↓tB_ap, ↓tChain_ap, ↓tAnd_ap, ↓tOr_ap, ↓tNot_ap, ↓tNotV_ap, ↓tAndV_ap, ↓tOrV_ap, ↓tIf_ap, ↓tNil_ap, ↓tCons_ap, ↓tTup_ap, ↓tLst_ap, ↓tCB_ap, ↓tCall_ap, ↓tSeq_ap, ↓tNext_ap, ↓tBreak_ap, ↓tCont_ap, ↓tRet_ap, ↓tRetN_ap, ↓tDrop_ap, ↓tIfS_ap, ↓tAsg_ap, ↓gName_ap, ↓gSub_ap, ↓tPar_ap', ↓tPar3_ap', ↓two_ap, ↓three_ap, ↓rI2_ap, ↓rI20_ap, ↓rAddU_i, ↓rAddU_s, ↓rU_ap, ↓rIxU_l', ↓rIxU_t', ↓ixL_0, ↓ixL_1, ↓ixL_2, ↓ixL_3, ↓rEq_ii, ↓rNe_ii, ↓rEq_bb, ↓rNe_bb, ↓rIntU_i, ↓rIntU_b, ↓rAbsU_i, ↓rStrU_i, ↓rSetU_l', ↓setL_0, ↓setL_1, ↓setL_2, ↓reduceIte, ↓List.set_cons_zero, ↓List.set_cons_succ, List.cons_append, List.nil_append, List.append_nil, decide_eq_true_eq, Bool.not_eq_true', decide_eq_false_iff_not, List.length_cons, List.length_nil, upd_upd]
    have fin : ∀ (a d : Addr) (H' : Hp) (C : Addr) (f : Str) (fs : List (Str × V)) (x : Str) (D : Ends), D.rt = Q → Same H H' → H' d = some (.xd fs) → fs.lookup f = some v → x = word n →
        tRet (tTup (tCons (tC (V.str x)) (tCons (tXf a (.ref C) (some d) C f (tVar 2)) tNil))) D [some (V.int (n : Int)), some v, some (.ref a)] H' := fun a d H' C f fs x D hD sa hx hl hw => by
      refine ⟨.ref a, rfl, rfl, rfl, d, fs, v, rfl, hx, hl, by show 2 ≤ sizeLine; decide, fun p hp => ?_⟩
      rw [hD, hw]
      exact k p _ (sa.trans (same_new hp)) (none_of sa hp) upd_same
    refine ⟨.int n, rfl, v, rfl, n, v, rfl, hn, fun d H' hd sa => ⟨fun e hx => ?_, fun e hx => ?_, fun e hx => ?_⟩⟩
    · exact ⟨true, M.a, fun _ a na => fin a d H' _ _ _ _ _ rfl sa hx rfl (by rw [e]; rfl), (fun e => nomatch e)⟩
    · refine ⟨false, M.b0, (fun e => nomatch e), fun _ => ?_⟩
      exact ⟨true, M.b1, fun _ a na => fin a d H' _ _ _ _ _ rfl sa hx rfl (by rw [e]; rfl), (fun e => nomatch e)⟩
    · refine ⟨false, M.c0, (fun e => nomatch e), fun _ => ⟨false, M.c1, (fun e => nomatch e), fun _ => ?_⟩⟩
      exact ⟨true, M.c2, fun _ a na => fin a d H' _ _ _ _ _ rfl sa hx rfl (by rw [e]; rfl), (fun e => nomatch e)⟩
end
end K00

set_option Elab.async false
set_option linter.all false
set_option maxRecDepth 100000
set_option maxHeartbeats 4000000
namespace K00
open PySem PySem.Spec L2 U
open PyProof.Rows hiding St
section
variable {P : Program} {w : World} {K : PySem.W.Frag} {mg : Str → Option Value} {base : Heap} {cl : Nat → Addr} {cM cT : Addr}
theorem room1 {n : Nat} (h : n + 64 < cLine) : n + 1 < cLine := by omega
theorem room2 {n : Nat} (h : n + 64 < cLine) : n + 2 < cLine := by omega
theorem SelfV.keep {H H' : Hp} {x : V} (h : SelfV K H x) (s : Same H H') : SelfV K H' x := by
  rcases h with h | ⟨a, rfl, ⟨xs, hx, hs⟩ | ⟨ks, hk, hn, hs⟩ | ⟨C, d, hc, T⟩⟩
  · exact .inl h
  · exact .inr ⟨a, rfl, .inl ⟨xs, hx.imp (s _ _) (s _ _), hs⟩⟩
  · exact .inr ⟨a, rfl, .inr (.inl ⟨ks, s _ _ hk, hn, hs⟩)⟩
  · exact .inr ⟨a, rfl, .inr (.inr ⟨C, d, s _ _ hc, T⟩)⟩
def spDouble (K : PySem.W.Frag) : Sp := fun vs H Q _ => ∃ u v : V, vs = [u, v] ∧ SelfV K H u ∧ SelfV K H v ∧ ∀ H', Same H H' → Q (.bl true) H'
theorem db_loop {n : Nat} {f g : Str} {u v : V} {o : Option V} {H : Hp} {D : Ends} (hn : n < 23) (k : ExK K (cl n)) (nf : PySem.W.findIn K (.ref (cl n)) f = some none) (ng : PySem.W.findIn K (.ref (cl n)) g = some none) (fg : (f == g) = false)
    (hu : SelfV K H u) (hv : SelfV K H v) (kk : ∀ o H', Same H H' → D.nx [some u, some v, o] H') :
    tFor (iTup K (tTup (tCons (tE2 (cl n) f g (tCons (tVar 0) (tCons (tVar 1) tNil))) (tCons (tE2r (cl n) f g (tCons (tVar 1) (tCons (tVar 0) tNil))) tNil)))) (gName 2)
      (tIfS (tOr (tNot (tB (tCall (spIsOne K cl) [] E0 (tCons (tVar 2) (tCons (tC (V.int (n : Int))) tNil)))))
        (tOr (tTest (tOp (rNeSelf K) (tErF K f (tVar 2)) (tVar 0))) (tTest (tOp (rNeSelf K) (tErF K g (tVar 2)) (tVar 1)))))
        (tRet (tC (V.bl false))) tNext) D [some u, some v, o] H := by
  refine ⟨u, rfl, v, rfl, u, v, rfl, fun a1 H1 n1 s1 e1 => ⟨v, rfl, u, rfl, u, v, rfl, fun a2 H2 n2 s2 e2 => ⟨by show 2 ≤ sizeLine; decide, fun p hp => ⟨p, rfl, ⟨_, SqT.of upd_same⟩, ?_⟩⟩⟩⟩
  have s3 := same_new (o := .tup [V.ref a1, V.ref a2]) hp
  have sH := (s1.trans s2).trans s3
  have q1 := e1.keep (s2.trans s3)
  have q2 := e2.keep s3
  have q3 : upd H2 p (.tup [V.ref a1, V.ref a2]) p = some (.tup [V.ref a1, V.ref a2]) := upd_same
  generalize upd H2 p (.tup [V.ref a1, V.ref a2]) = H3 at s3 sH q1 q2 q3 ⊢
  refine for_tup (K := K) (a := p) (xs := [.ref a1, .ref a2]) (fun i σ H' => ∃ o, σ = [some u, some v, o] ∧ Same H3 H') ⟨_, rfl, fun _ _ e => e⟩ (fun i σ H' _ ⟨_, _, h⟩ => SqT.of (h _ _ q3)) ?_ (fun σ H' h => ?_)
  · rintro i y σ H' hi ⟨o, rfl, sa⟩
    obtain ⟨a, rfl, ea⟩ : ∃ a, y = .ref a ∧ ErrAt H3 a (cl n) [(g, v), (f, u)] := by
      match i, hi with
      | 0, hi => exact ⟨a1, (Option.some.inj hi).symm, q1⟩
      | 1, hi => exact ⟨a2, (Option.some.inj hi).symm, q2⟩
    simp only [↓tVar_0, ↓tVar_s, ↓tC_ap, ↓tOp_ap, ↓tUn_ap, ↓asB_bl, ↓tTest_ap, ↓tB_ap, ↓tChain_ap, ↓tAnd_ap, ↓tOr_ap, ↓tNot_ap, ↓tNotV_ap, ↓tAndV_ap, ↓tOrV_ap, ↓tIf_ap, ↓tNil_ap, ↓tCons_ap, ↓tTup_ap, ↓tLst_ap, ↓tCB_ap, ↓tCall_ap, ↓tSeq_ap, ↓tNext_ap, ↓tBreak_ap, ↓tCont_ap, ↓tRet_ap, ↓tRetN_ap, ↓tDrop_ap, ↓tIfS_ap, ↓tAsg_ap, ↓gName_ap, ↓gSub_ap, ↓tPar_ap', ↓tPar3_ap', ↓two_ap, ↓three_ap, ↓rI2_ap, ↓rI20_ap, ↓rAddU_i, ↓rAddU_s, ↓rU_ap, ↓rIxU_l', ↓rIxU_t', ↓ixL_0, ↓ixL_1, ↓ixL_2, ↓ixL_3, ↓rEq_ii, ↓rNe_ii, ↓rEq_bb, ↓rNe_bb, ↓rIntU_i, ↓rIntU_b, ↓rAbsU_i, ↓rStrU_i, ↓rSetU_l', ↓setL_0, ↓setL_1, ↓setL_2, ↓reduceIte, ↓List.set_cons_zero, ↓List.set_cons_succ, List.cons_append, List.nil_append, List.append_nil, decide_eq_true_eq, Bool.not_eq_true', decide_eq_false_iff_not, List.length_cons, List.length_nil, upd_upd]
    refine ⟨a, n, rfl, hn, .inl ⟨_, ea.keep sa⟩, fun H4 s4 => ?_⟩
    simp only [↓tVar_0, ↓tVar_s, ↓tC_ap, ↓tOp_ap, ↓tUn_ap, ↓asB_bl, ↓tTest_ap, ↓tB_ap, ↓tChain_ap, ↓tAnd_ap, ↓tOr_ap, ↓tNot_ap, ↓tNotV_ap, ↓tAndV_ap, ↓tOrV_ap, ↓tIf_ap, ↓tNil_ap, ↓tCons_ap, ↓tTup_ap, ↓tLst_ap, ↓tCB_ap, ↓tCall_ap, ↓tSeq_ap, ↓tNext_ap, ↓tBreak_ap, ↓tCont_ap, ↓tRet_ap, ↓tRetN_ap, ↓tDrop_ap, ↓tIfS_ap, ↓tAsg_ap, ↓gName_ap, ↓gSub_ap, ↓tPar_ap', ↓tPar3_ap', ↓two_ap, ↓three_ap, ↓rI2_ap, ↓rI20_ap, ↓rAddU_i, ↓rAddU_s, ↓rU_ap, ↓rIxU_l', ↓rIxU_t', ↓ixL_0, ↓ixL_1, ↓ixL_2, ↓ixL_3, ↓rEq_ii, ↓rNe_ii, ↓rEq_bb, ↓rNe_bb, ↓rIntU_i, ↓rIntU_b, ↓rAbsU_i, ↓rStrU_i, ↓rSetU_l', ↓setL_0, ↓setL_1, ↓setL_2, ↓reduceIte, ↓List.set_cons_zero, ↓List.set_cons_succ, List.cons_append, List.nil_append, List.append_nil, decide_eq_true_eq, Bool.not_eq_true', decide_eq_false_iff_not, List.length_cons, List.length_nil, upd_upd]
    have lf : ([(g, v), (f, u)] : List (Str × V)).lookup f = some u := by
      simp [List.lookup, fg]
    have lg : ([(g, v), (f, u)] : List (Str × V)).lookup g = some v := by
      simp [List.lookup]
    refine ⟨.ref a, rfl, a, cl n, _, u, rfl, (ea.keep sa).keep s4, k, nf, lf, ?_⟩
    simp only [↓tVar_0, ↓tVar_s, ↓tC_ap, ↓tOp_ap, ↓tUn_ap, ↓asB_bl, ↓tTest_ap, ↓tB_ap, ↓tChain_ap, ↓tAnd_ap, ↓tOr_ap, ↓tNot_ap, ↓tNotV_ap, ↓tAndV_ap, ↓tOrV_ap, ↓tIf_ap, ↓tNil_ap, ↓tCons_ap, ↓tTup_ap, ↓tLst_ap, ↓tCB_ap, ↓tCall_ap, ↓tSeq_ap, ↓tNext_ap, ↓tBreak_ap, ↓tCont_ap, ↓tRet_ap, ↓tRetN_ap, ↓tDrop_ap, ↓tIfS_ap, ↓tAsg_ap, ↓gName_ap, ↓gSub_ap, ↓tPar_ap', ↓tPar3_ap', ↓two_ap, ↓three_ap, ↓rI2_ap, ↓rI20_ap, ↓rAddU_i, ↓rAddU_s, ↓rU_ap, ↓rIxU_l', ↓rIxU_t', ↓ixL_0, ↓ixL_1, ↓ixL_2, ↓ixL_3, ↓rEq_ii, ↓rNe_ii, ↓rEq_bb, ↓rNe_bb, ↓rIntU_i, ↓rIntU_b, ↓rAbsU_i, ↓rStrU_i, ↓rSetU_l', ↓setL_0, ↓setL_1, ↓setL_2, ↓reduceIte, ↓List.set_cons_zero, ↓List.set_cons_succ, List.cons_append, List.nil_append, List.append_nil, decide_eq_true_eq, Bool.not_eq_true', decide_eq_false_iff_not, List.length_cons, List.length_nil, upd_upd]
    refine ⟨rfl, SelfV.keep hu ((sH.trans sa).trans s4), ?_⟩
    simp only [↓tVar_0, ↓tVar_s, ↓tC_ap, ↓tOp_ap, ↓tUn_ap, ↓asB_bl, ↓tTest_ap, ↓tB_ap, ↓tChain_ap, ↓tAnd_ap, ↓tOr_ap, ↓tNot_ap, ↓tNotV_ap, ↓tAndV_ap, ↓tOrV_ap, ↓tIf_ap, ↓tNil_ap, ↓tCons_ap, ↓tTup_ap, ↓tLst_ap, ↓tCB_ap, ↓tCall_ap, ↓tSeq_ap, ↓tNext_ap, ↓tBreak_ap, ↓tCont_ap, ↓tRet_ap, ↓tRetN_ap, ↓tDrop_ap, ↓tIfS_ap, ↓tAsg_ap, ↓gName_ap, ↓gSub_ap, ↓tPar_ap', ↓tPar3_ap', ↓two_ap, ↓three_ap, ↓rI2_ap, ↓rI20_ap, ↓rAddU_i, ↓rAddU_s, ↓rU_ap, ↓rIxU_l', ↓rIxU_t', ↓ixL_0, ↓ixL_1, ↓ixL_2, ↓ixL_3, ↓rEq_ii, ↓rNe_ii, ↓rEq_bb, ↓rNe_bb, ↓rIntU_i, ↓rIntU_b, ↓rAbsU_i, ↓rStrU_i, ↓rSetU_l', ↓setL_0, ↓setL_1, ↓setL_2, ↓reduceIte, ↓List.set_cons_zero, ↓List.set_cons_succ, List.cons_append, List.nil_append, List.append_nil, decide_eq_true_eq, Bool.not_eq_true', decide_eq_false_iff_not, List.length_cons, List.length_nil, upd_upd]
    refine ⟨.ref a, rfl, a, cl n, _, v, rfl, (ea.keep sa).keep s4, k, ng, lg, ?_⟩
    simp only [↓tVar_0, ↓tVar_s, ↓tC_ap, ↓tOp_ap, ↓tUn_ap, ↓asB_bl, ↓tTest_ap, ↓tB_ap, ↓tChain_ap, ↓tAnd_ap, ↓tOr_ap, ↓tNot_ap, ↓tNotV_ap, ↓tAndV_ap, ↓tOrV_ap, ↓tIf_ap, ↓tNil_ap, ↓tCons_ap, ↓tTup_ap, ↓tLst_ap, ↓tCB_ap, ↓tCall_ap, ↓tSeq_ap, ↓tNext_ap, ↓tBreak_ap, ↓tCont_ap, ↓tRet_ap, ↓tRetN_ap, ↓tDrop_ap, ↓tIfS_ap, ↓tAsg_ap, ↓gName_ap, ↓gSub_ap, ↓tPar_ap', ↓tPar3_ap', ↓two_ap, ↓three_ap, ↓rI2_ap, ↓rI20_ap, ↓rAddU_i, ↓rAddU_s, ↓rU_ap, ↓rIxU_l', ↓rIxU_t', ↓ixL_0, ↓ixL_1, ↓ixL_2, ↓ixL_3, ↓rEq_ii, ↓rNe_ii, ↓rEq_bb, ↓rNe_bb, ↓rIntU_i, ↓rIntU_b, ↓rAbsU_i, ↓rStrU_i, ↓rSetU_l', ↓setL_0, ↓setL_1, ↓setL_2, ↓reduceIte, ↓List.set_cons_zero, ↓List.set_cons_succ, List.cons_append, List.nil_append, List.append_nil, decide_eq_true_eq, Bool.not_eq_true', decide_eq_false_iff_not, List.length_cons, List.length_nil, upd_upd]
    refine ⟨rfl, SelfV.keep hv ((sH.trans sa).trans s4), ?_⟩
    simp only [↓tVar_0, ↓tVar_s, ↓tC_ap, ↓tOp_ap, ↓tUn_ap, ↓asB_bl, ↓tTest_ap, ↓tB_ap, ↓tChain_ap, ↓tAnd_ap, ↓tOr_ap, ↓tNot_ap, ↓tNotV_ap, ↓tAndV_ap, ↓tOrV_ap, ↓tIf_ap, ↓tNil_ap, ↓tCons_ap, ↓tTup_ap, ↓tLst_ap, ↓tCB_ap, ↓tCall_ap, ↓tSeq_ap, ↓tNext_ap, ↓tBreak_ap, ↓tCont_ap, ↓tRet_ap, ↓tRetN_ap, ↓tDrop_ap, ↓tIfS_ap, ↓tAsg_ap, ↓gName_ap, ↓gSub_ap, ↓tPar_ap', ↓tPar3_ap', ↓two_ap, ↓three_ap, ↓rI2_ap, ↓rI20_ap, ↓rAddU_i, ↓rAddU_s, ↓rU_ap, ↓rIxU_l', ↓rIxU_t', ↓ixL_0, ↓ixL_1, ↓ixL_2, ↓ixL_3, ↓rEq_ii, ↓rNe_ii, ↓rEq_bb, ↓rNe_bb, ↓rIntU_i, ↓rIntU_b, ↓rAbsU_i, ↓rStrU_i, ↓rSetU_l', ↓setL_0, ↓setL_1, ↓setL_2, ↓reduceIte, ↓List.set_cons_zero, ↓List.set_cons_succ, List.cons_append, List.nil_append, List.append_nil, decide_eq_true_eq, Bool.not_eq_true', decide_eq_false_iff_not, List.length_cons, List.length_nil, upd_upd]
    exact ⟨_, rfl, sa.trans s4⟩
  · obtain ⟨o, rfl, sa⟩ := h
    exact kk o H' (sH.trans sa)
theorem ok_double {f : Addr} {fd : FuncData} (B : Blt mg) (T : Ers P w K mg base cl cM cT) (O_is_one : Ok P w K mg base CX0 "_law_is_one" 1 ["_law_error", "_law_number"] (spIsOne K cl))
    (F : Fun K "_law_double_right" "_law_double_right" s_law_double_right f fd) : FnOk P w K mg base CX0 3 f fd ["_law_one", "_law_other"] (spDouble K) := by
  refine F.ok sc_double_right (fun vs H Q E h => ?_) (fun cdv A outer s H vs Q E hr h => ?_)
  · obtain ⟨u, v, rfl, _⟩ := h
    rfl
  · obtain ⟨u, v, rfl, hu, hv, k⟩ := h
    have nd := sc_double_right.nd
    refine ⟨_, (pss_cons (ps_for PassesOwn.never rfl (pi_tup (pe_tup (pa_cons (pe_e2 T.e19 hr (by decide) (by rfl) (pa_cons (pv 0) (pa_cons (pv 1) pa_nil)) (monoCons monoV (monoCons monoV monoNil))) (pa_cons (pe_e2k T.e19 hr (by decide) (by rfl) (pk_cons (pv 1) (pk_cons (pv 0) pk_nil)) (monoCons monoV (monoCons monoV monoNil))) pa_nil)))) (pg_name (i := 2) nd rfl (Or.inl rfl)) (pss_one (ps_if (pw_or (pt_not (pt_val (pe_callO O_is_one (hr.mono (by decide)) (by rfl) (pa_cons (pv 2) (pa_cons pe_int pa_nil))))) (pw_or (pt_cmpR (op_neSelf (room1 hr.units)) (pe_erF (pv 2)) (pv 0) (nomark _)) (pw_or1 (pt_cmpR (op_neSelf (room1 hr.units)) (pe_erF (pv 2)) (pv 1) (nomark _))))).pt (pss_one (ps_ret pe_bl)) pss_nil)))
        (pss_cons (ps_for PassesOwn.never rfl (pi_tup (pe_tup (pa_cons (pe_e2 T.e21 hr (by decide) (by rfl) (pa_cons (pv 0) (pa_cons (pv 1) pa_nil)) (monoCons monoV (monoCons monoV monoNil))) (pa_cons (pe_e2k T.e21 hr (by decide) (by rfl) (pk_cons (pv 1) (pk_cons (pv 0) pk_nil)) (monoCons monoV (monoCons monoV monoNil))) pa_nil)))) (pg_name (i := 2) nd rfl (Or.inl rfl)) (pss_one (ps_if (pw_or (pt_not (pt_val (pe_callO O_is_one (hr.mono (by decide)) (by rfl) (pa_cons (pv 2) (pa_cons pe_int pa_nil))))) (pw_or (pt_cmpR (op_neSelf (room1 hr.units)) (pe_erF (pv 2)) (pv 0) (nomark _)) (pw_or1 (pt_cmpR (op_neSelf (room1 hr.units)) (pe_erF (pv 2)) (pv 1) (nomark _))))).pt (pss_one (ps_ret pe_bl)) pss_nil)))
        (pss_cons (ps_for PassesOwn.never rfl (pi_tup (pe_tup (pa_cons (pe_e2 T.e22 hr (by decide) (by rfl) (pa_cons (pv 0) (pa_cons (pv 1) pa_nil)) (monoCons monoV (monoCons monoV monoNil))) (pa_cons (pe_e2k T.e22 hr (by decide) (by rfl) (pk_cons (pv 1) (pk_cons (pv 0) pk_nil)) (monoCons monoV (monoCons monoV monoNil))) pa_nil)))) (pg_name (i := 2) nd rfl (Or.inl rfl)) (pss_one (ps_if (pw_or (pt_not (pt_val (pe_callO O_is_one (hr.mono (by decide)) (by rfl) (pa_cons (pv 2) (pa_cons pe_int pa_nil))))) (pw_or (pt_cmpR (op_neSelf (room1 hr.units)) (pe_erF (pv 2)) (pv 0) (nomark _)) (pw_or1 (pt_cmpR (op_neSelf (room1 hr.units)) (pe_erF (pv 2)) (pv 1) (nomark _))))).pt (pss_one (ps_ret pe_bl)) pss_nil)))
        (pss_one (ps_ret pe_bl))))), ?_⟩
    rw [show start ["_law_one", "_law_other", "_law_error"] [u, v] = [some u, some v, none] from rfl]
    simp only [↓tSeq_ap]
    refine db_loop (n := 19) (by decide) (T.k 19 (by decide)) T.e19.nf T.e19.ng (by decide) hu hv fun o1 H1 s1 => ?_
    refine db_loop (n := 21) (by decide) (T.k 21 (by decide)) T.e21.nf T.e21.ng (by decide) (SelfV.keep hu s1) (SelfV.keep hv s1) fun o2 H2 s2 => ?_
    refine db_loop (n := 22) (by decide) (T.k 22 (by decide)) T.e22.nf T.e22.ng (by decide) (SelfV.keep hu (s1.trans s2)) (SelfV.keep hv (s1.trans s2)) fun o3 H3 s3 => ?_
    exact k H3 ((s1.trans s2).trans s3)
end
end K00

set_option Elab.async false
set_option linter.all false
set_option maxRecDepth 100000
set_option maxHeartbeats 4000000
namespace K00
open PySem PySem.Spec L2 U
open PyProof.Rows hiding St
section
variable {P : Program} {w : World} {K : PySem.W.Frag} {mg : Str → Option Value} {base : Heap} {cl : Nat → Addr} {cM cT : Addr}
theorem ok_single {f : Addr} {fd : FuncData} (B : Blt mg) (T : Ers P w K mg base cl cM cT) (O_is_one : Ok P w K mg base CX0 "_law_is_one" 1 ["_law_error", "_law_number"] (spIsOne K cl))
    (O_by_place : Ok P w K mg base CX0 "_law_by_place" 3 ["_law_field_here"] (spErrs cl)) (O_by_name : Ok P w K mg base CX0 "_law_by_name" 3 ["_law_field_here"] (spErrs cl)) (O_kept : Ok P w K mg base CX0 "_law_kept" 1 ["_law_error", "_law_number"] (spKept K cl))
    (F : Fun K "_law_single_right" "_law_single_right" s_law_single_right f fd) : FnOk P w K mg base CX0 4 f fd ["_law_one", "_law_other"] (spDouble K) := by
  refine F.ok sc_single_right (fun vs H Q E h => ?_) (fun cdv A outer s H vs Q E hr h => ?_)
  · obtain ⟨u, v, rfl, _⟩ := h
    rfl
  · obtain ⟨u, v, rfl, hu, hv, k⟩ := h
    have nd := sc_single_right.nd
    refine ⟨_, (pss_cons (ps_par (i := 2) (j := 3) rfl nd rfl rfl (by decide) rfl rfl (pa_cons (pe_callO O_by_place (hr.mono (by decide)) (by rfl) (pa_cons (pv 0) pa_nil)) (pa_cons (pe_callO O_by_name (hr.mono (by decide)) (by rfl) (pa_cons (pv 1) pa_nil)) pa_nil)) (by rfl))
        (pss_cons (ps_for PassesOwn.never rfl (pi_range1 (by rfl) B.range (pa_cons pe_int pa_nil)) (pg_name (i := 4) nd rfl (Or.inl rfl)) (pss_cons (ps_if (pw_or (pt_not (pt_val (pe_callO O_is_one (hr.mono (by decide)) (by rfl) (pa_cons (pe_ix ix_U (pv 2) (pv 4) (fun _ _ => rfl)) (pa_cons (pv 4) pa_nil))))) (pw_or1 (pt_not (pt_val (pe_callO O_is_one (hr.mono (by decide)) (by rfl) (pa_cons (pe_ix ix_U (pv 3) (pv 4) (fun _ _ => rfl)) (pa_cons (pv 4) pa_nil))))))).pt (pss_one (ps_ret pe_bl)) pss_nil)
        (pss_one (ps_if (pw_or (pt_cmpR (op_neSelf (room1 hr.units)) (pe_callO O_kept (hr.mono (by decide)) (by rfl) (pa_cons (pe_ix ix_U (pv 2) (pv 4) (fun _ _ => rfl)) (pa_cons (pv 4) pa_nil))) (pv 0) (nomark _)) (pw_or1 (pt_cmpR (op_neSelf (room1 hr.units)) (pe_callO O_kept (hr.mono (by decide)) (by rfl) (pa_cons (pe_ix ix_U (pv 3) (pv 4) (fun _ _ => rfl)) (pa_cons (pv 4) pa_nil))) (pv 1) (nomark _)))).pt (pss_one (ps_ret pe_bl)) pss_nil))))
        (pss_cons (ps_set (i := 5) nd rfl (Or.inl rfl) (pe_e1k T.miss hr (by decide) (by rfl) (pk_cons (pv 0) pk_nil) (monoCons monoV monoNil)))
        (pss_cons (ps_if (pw_or (pt_cmpR (op_neSelf (room1 hr.units)) (pe_erF (pv 5)) (pv 0) (nomark _)) (pw_or (pt_not (pt_val (pe_callB call_isE' (by rfl) B.isinstance (by decide +kernel) (pa_cons (pv 5) (pa_cons (pe_glob (v := .ref cT) (by rfl) T.mT rfl) pa_nil))))) (pw_or1 (pt_val (pe_callB call_isTE (by rfl) B.isinstance (by decide +kernel) (pa_cons (pv 5) (pa_cons (pe_tup (pa_cons (pe_glob (v := .ref (cl 12)) (by rfl) (T.m 12 (by decide)) rfl) (pa_cons (pe_glob (v := .ref (cl 13)) (by rfl) (T.m 13 (by decide)) rfl) (pa_cons (pe_glob (v := .ref (cl 14)) (by rfl) (T.m 14 (by decide)) rfl) (pa_cons (pe_glob (v := .ref (cl 15)) (by rfl) (T.m 15 (by decide)) rfl) (pa_cons (pe_glob (v := .ref (cl 16)) (by rfl) (T.m 16 (by decide)) rfl) (pa_cons (pe_glob (v := .ref (cl 17)) (by rfl) (T.m 17 (by decide)) rfl) pa_nil))))))) pa_nil))))))).pt (pss_one (ps_ret pe_bl)) pss_nil)
        (pss_one (ps_ret (pe_and (pe_cmpR (op_eqSelf (room1 hr.units)) (pe_erF (pe_e1 T.miss hr (by decide) (by rfl) (pa_cons (pv 1) pa_nil) (monoCons monoV monoNil))) (pv 1) (nomark _)) (pe_one (pe_callO O_is_one (hr.mono (by decide)) (by rfl) (pa_cons (pe_mk0 PySem.F.excBase_ValueError T.e20 (T.k 20 (by decide)).oex.kC (T.m 20 (by decide)) (by rfl)) (pa_cons pe_int pa_nil))))))))))), ?_⟩
    rw [show start ["_law_one", "_law_other", "_law_first", "_law_second", "_law_number", "_law_base"] [u, v] = [some u, some v, none, none, none, none] from rfl]
    simp only [↓tVar_0, ↓tVar_s, ↓tC_ap, ↓tOp_ap, ↓tUn_ap, ↓asB_bl, ↓tTest_ap, ↓tB_ap, ↓tChain_ap, ↓tAnd_ap, ↓tOr_ap, ↓tNot_ap, ↓tNotV_ap, ↓tAndV_ap, ↓tOrV_ap, ↓tIf_ap, ↓tNil_ap, ↓tCons_ap, ↓tTup_ap, ↓tLst_ap, ↓tCB_ap, ↓tCall_ap, ↓tSeq_ap, ↓tNext_ap, ↓tBreak_ap, ↓tCont_ap, ↓tRet_ap, ↓tRetN_ap, ↓tDrop_ap, ↓tIfS_ap, ↓tAsg_ap, ↓gName_ap, ↓gSub_ap, ↓tPar_ap', ↓tPar3_ap', ↓two_ap, ↓three_ap, ↓rI2_ap, ↓rI20_ap, ↓rAddU_i, ↓rAddU_s, ↓rU_ap, ↓rIxU_l', ↓rIxU_t', ↓ixL_0, ↓ixL_1, ↓ixL_2, ↓ixL_3, ↓rEq_ii, ↓rNe_ii, ↓rEq_bb, ↓rNe_bb, ↓rIntU_i, ↓rIntU_b, ↓rAbsU_i, ↓rStrU_i, ↓rSetU_l', ↓setL_0, ↓setL_1, ↓setL_2, ↓reduceIte, ↓List.set_cons_zero, ↓List.set_cons_succ, List.cons_append, List.nil_append, List.append_nil, decide_eq_true_eq, Bool.not_eq_true', decide_eq_false_iff_not, List.length_cons, List.length_nil, upd_upd]
    refine ⟨u, rfl, fun p1 es H1 s1 n1 l1 R1 => ?_⟩
    simp only [↓tVar_0, ↓tVar_s, ↓tC_ap, ↓tOp_ap, ↓tUn_ap, ↓asB_bl, ↓tTest_ap, ↓tB_ap, ↓tChain_ap, ↓tAnd_ap, ↓tOr_ap, ↓tNot_ap, ↓tNotV_ap, ↓tAndV_ap, ↓tOrV_ap, ↓tIf_ap, ↓tNil_ap, ↓tCons_ap, ↓tTup_ap, ↓tLst_ap, ↓tCB_ap, ↓tCall_ap, ↓tSeq_ap, ↓tNext_ap, ↓tBreak_ap, ↓tCont_ap, ↓tRet_ap, ↓tRetN_ap, ↓tDrop_ap, ↓tIfS_ap, ↓tAsg_ap, ↓gName_ap, ↓gSub_ap, ↓tPar_ap', ↓tPar3_ap', ↓two_ap, ↓three_ap, ↓rI2_ap, ↓rI20_ap, ↓rAddU_i, ↓rAddU_s, ↓rU_ap, ↓rIxU_l', ↓rIxU_t', ↓ixL_0, ↓ixL_1, ↓ixL_2, ↓ixL_3, ↓rEq_ii, ↓rNe_ii, ↓rEq_bb, ↓rNe_bb, ↓rIntU_i, ↓rIntU_b, ↓rAbsU_i, ↓rStrU_i, ↓rSetU_l', ↓setL_0, ↓setL_1, ↓setL_2, ↓reduceIte, ↓List.set_cons_zero, ↓List.set_cons_succ, List.cons_append, List.nil_append, List.append_nil, decide_eq_true_eq, Bool.not_eq_true', decide_eq_false_iff_not, List.length_cons, List.length_nil, upd_upd]
    refine ⟨v, rfl, fun p2 fs H2 s2 n2 l2 R2 => ?_⟩
    simp only [↓tVar_0, ↓tVar_s, ↓tC_ap, ↓tOp_ap, ↓tUn_ap, ↓asB_bl, ↓tTest_ap, ↓tB_ap, ↓tChain_ap, ↓tAnd_ap, ↓tOr_ap, ↓tNot_ap, ↓tNotV_ap, ↓tAndV_ap, ↓tOrV_ap, ↓tIf_ap, ↓tNil_ap, ↓tCons_ap, ↓tTup_ap, ↓tLst_ap, ↓tCB_ap, ↓tCall_ap, ↓tSeq_ap, ↓tNext_ap, ↓tBreak_ap, ↓tCont_ap, ↓tRet_ap, ↓tRetN_ap, ↓tDrop_ap, ↓tIfS_ap, ↓tAsg_ap, ↓gName_ap, ↓gSub_ap, ↓tPar_ap', ↓tPar3_ap', ↓two_ap, ↓three_ap, ↓rI2_ap, ↓rI20_ap, ↓rAddU_i, ↓rAddU_s, ↓rU_ap, ↓rIxU_l', ↓rIxU_t', ↓ixL_0, ↓ixL_1, ↓ixL_2, ↓ixL_3, ↓rEq_ii, ↓rNe_ii, ↓rEq_bb, ↓rNe_bb, ↓rIntU_i, ↓rIntU_b, ↓rAbsU_i, ↓rStrU_i, ↓rSetU_l', ↓setL_0, ↓setL_1, ↓setL_2, ↓reduceIte, ↓List.set_cons_zero, ↓List.set_cons_succ, List.cons_append, List.nil_append, List.append_nil, decide_eq_true_eq, Bool.not_eq_true', decide_eq_false_iff_not, List.length_cons, List.length_nil, upd_upd]
    have sH := s1.trans s2
    have l1 := s2 _ _ l1
    have R1 := R1.keep s2
    refine ⟨19, rfl, by decide, by decide, for_range (lo := 0) (fun i σ H' => ∃ o, σ = [some u, some v, some (.ref p1), some (.ref p2), o, none] ∧ Same H2 H') ⟨_, rfl, fun _ _ e => e⟩ ?_ (fun σ H' h => ?_)⟩
    · rintro i σ H' hi ⟨o, rfl, sa⟩
      have hi : i < 19 := hi
      obtain ⟨a1, g1, e1⟩ := R1.at (i := i) (n := i) (by simp [hi])
      obtain ⟨a2, g2, e2⟩ := R2.at (i := i) (n := i) (by simp [hi])
      have c1 := sa _ _ l1
      have c2 := sa _ _ l2
      have b1 : ∀ {Q : V → Prop}, ixL (es.map V.ref) (i : Int) Q = Q (.ref a1) := fun {Q} => ixL_of (at_nat (by rw [List.getElem?_map, g1]; rfl))
      have b2 : ∀ {Q : V → Prop}, ixL (fs.map V.ref) (i : Int) Q = Q (.ref a2) := fun {Q} => ixL_of (at_nat (by rw [List.getElem?_map, g2]; rfl))
      rw [Int.zero_add]
      simp only [↓tVar_0, ↓tVar_s, ↓tC_ap, ↓tOp_ap, ↓tUn_ap, ↓asB_bl, ↓tTest_ap, ↓tB_ap, ↓tChain_ap, ↓tAnd_ap, ↓tOr_ap, ↓tNot_ap, ↓tNotV_ap, ↓tAndV_ap, ↓tOrV_ap, ↓tIf_ap, ↓tNil_ap, ↓tCons_ap, ↓tTup_ap, ↓tLst_ap, ↓tCB_ap, ↓tCall_ap, ↓tSeq_ap, ↓tNext_ap, ↓tBreak_ap, ↓tCont_ap, ↓tRet_ap, ↓tRetN_ap, ↓tDrop_ap, ↓tIfS_ap, ↓tAsg_ap, ↓gName_ap, ↓gSub_ap, ↓tPar_ap', ↓tPar3_ap', ↓two_ap, ↓three_ap, ↓rI2_ap, ↓rI20_ap, ↓rAddU_i, ↓rAddU_s, ↓rU_ap, ↓rIxU_l', ↓rIxU_t', ↓ixL_0, ↓ixL_1, ↓ixL_2, ↓ixL_3, ↓rEq_ii, ↓rNe_ii, ↓rEq_bb, ↓rNe_bb, ↓rIntU_i, ↓rIntU_b, ↓rAbsU_i, ↓rStrU_i, ↓rSetU_l', ↓setL_0, ↓setL_1, ↓setL_2, ↓reduceIte, ↓List.set_cons_zero, ↓List.set_cons_succ, List.cons_append, List.nil_append, List.append_nil, decide_eq_true_eq, Bool.not_eq_true', decide_eq_false_iff_not, List.length_cons, List.length_nil, upd_upd, ↓rIxU_l c1, ↓b1]
      refine ⟨a1, i, rfl, by omega, .inl ⟨_, e1.keep sa⟩, fun H3 s3 => ?_⟩
      have d2 := s3 _ _ c2
      simp only [↓tVar_0, ↓tVar_s, ↓tC_ap, ↓tOp_ap, ↓tUn_ap, ↓asB_bl, ↓tTest_ap, ↓tB_ap, ↓tChain_ap, ↓tAnd_ap, ↓tOr_ap, ↓tNot_ap, ↓tNotV_ap, ↓tAndV_ap, ↓tOrV_ap, ↓tIf_ap, ↓tNil_ap, ↓tCons_ap, ↓tTup_ap, ↓tLst_ap, ↓tCB_ap, ↓tCall_ap, ↓tSeq_ap, ↓tNext_ap, ↓tBreak_ap, ↓tCont_ap, ↓tRet_ap, ↓tRetN_ap, ↓tDrop_ap, ↓tIfS_ap, ↓tAsg_ap, ↓gName_ap, ↓gSub_ap, ↓tPar_ap', ↓tPar3_ap', ↓two_ap, ↓three_ap, ↓rI2_ap, ↓rI20_ap, ↓rAddU_i, ↓rAddU_s, ↓rU_ap, ↓rIxU_l', ↓rIxU_t', ↓ixL_0, ↓ixL_1, ↓ixL_2, ↓ixL_3, ↓rEq_ii, ↓rNe_ii, ↓rEq_bb, ↓rNe_bb, ↓rIntU_i, ↓rIntU_b, ↓rAbsU_i, ↓rStrU_i, ↓rSetU_l', ↓setL_0, ↓setL_1, ↓setL_2, ↓reduceIte, ↓List.set_cons_zero, ↓List.set_cons_succ, List.cons_append, List.nil_append, List.append_nil, decide_eq_true_eq, Bool.not_eq_true', decide_eq_false_iff_not, List.length_cons, List.length_nil, upd_upd, ↓rIxU_l d2, ↓b2]
      refine ⟨a2, i, rfl, by omega, .inl ⟨_, (e2.keep sa).keep s3⟩, fun H4 s4 => ?_⟩
      have d1 := s4 _ _ (s3 _ _ c1)
      have d3 := s4 _ _ d2
      simp only [↓tVar_0, ↓tVar_s, ↓tC_ap, ↓tOp_ap, ↓tUn_ap, ↓asB_bl, ↓tTest_ap, ↓tB_ap, ↓tChain_ap, ↓tAnd_ap, ↓tOr_ap, ↓tNot_ap, ↓tNotV_ap, ↓tAndV_ap, ↓tOrV_ap, ↓tIf_ap, ↓tNil_ap, ↓tCons_ap, ↓tTup_ap, ↓tLst_ap, ↓tCB_ap, ↓tCall_ap, ↓tSeq_ap, ↓tNext_ap, ↓tBreak_ap, ↓tCont_ap, ↓tRet_ap, ↓tRetN_ap, ↓tDrop_ap, ↓tIfS_ap, ↓tAsg_ap, ↓gName_ap, ↓gSub_ap, ↓tPar_ap', ↓tPar3_ap', ↓two_ap, ↓three_ap, ↓rI2_ap, ↓rI20_ap, ↓rAddU_i, ↓rAddU_s, ↓rU_ap, ↓rIxU_l', ↓rIxU_t', ↓ixL_0, ↓ixL_1, ↓ixL_2, ↓ixL_3, ↓rEq_ii, ↓rNe_ii, ↓rEq_bb, ↓rNe_bb, ↓rIntU_i, ↓rIntU_b, ↓rAbsU_i, ↓rStrU_i, ↓rSetU_l', ↓setL_0, ↓setL_1, ↓setL_2, ↓reduceIte, ↓List.set_cons_zero, ↓List.set_cons_succ, List.cons_append, List.nil_append, List.append_nil, decide_eq_true_eq, Bool.not_eq_true', decide_eq_false_iff_not, List.length_cons, List.length_nil, upd_upd, ↓rIxU_l d1, ↓b1]
      refine ⟨a1, i, u, rfl, hi, ((e1.keep sa).keep s3).keep s4, ?_⟩
      simp only [↓tVar_0, ↓tVar_s, ↓tC_ap, ↓tOp_ap, ↓tUn_ap, ↓asB_bl, ↓tTest_ap, ↓tB_ap, ↓tChain_ap, ↓tAnd_ap, ↓tOr_ap, ↓tNot_ap, ↓tNotV_ap, ↓tAndV_ap, ↓tOrV_ap, ↓tIf_ap, ↓tNil_ap, ↓tCons_ap, ↓tTup_ap, ↓tLst_ap, ↓tCB_ap, ↓tCall_ap, ↓tSeq_ap, ↓tNext_ap, ↓tBreak_ap, ↓tCont_ap, ↓tRet_ap, ↓tRetN_ap, ↓tDrop_ap, ↓tIfS_ap, ↓tAsg_ap, ↓gName_ap, ↓gSub_ap, ↓tPar_ap', ↓tPar3_ap', ↓two_ap, ↓three_ap, ↓rI2_ap, ↓rI20_ap, ↓rAddU_i, ↓rAddU_s, ↓rU_ap, ↓rIxU_l', ↓rIxU_t', ↓ixL_0, ↓ixL_1, ↓ixL_2, ↓ixL_3, ↓rEq_ii, ↓rNe_ii, ↓rEq_bb, ↓rNe_bb, ↓rIntU_i, ↓rIntU_b, ↓rAbsU_i, ↓rStrU_i, ↓rSetU_l', ↓setL_0, ↓setL_1, ↓setL_2, ↓reduceIte, ↓List.set_cons_zero, ↓List.set_cons_succ, List.cons_append, List.nil_append, List.append_nil, decide_eq_true_eq, Bool.not_eq_true', decide_eq_false_iff_not, List.length_cons, List.length_nil, upd_upd]
      have s24 := (sa.trans s3).trans s4
      refine ⟨rfl, SelfV.keep hu (sH.trans s24), ?_⟩
      simp only [↓tVar_0, ↓tVar_s, ↓tC_ap, ↓tOp_ap, ↓tUn_ap, ↓asB_bl, ↓tTest_ap, ↓tB_ap, ↓tChain_ap, ↓tAnd_ap, ↓tOr_ap, ↓tNot_ap, ↓tNotV_ap, ↓tAndV_ap, ↓tOrV_ap, ↓tIf_ap, ↓tNil_ap, ↓tCons_ap, ↓tTup_ap, ↓tLst_ap, ↓tCB_ap, ↓tCall_ap, ↓tSeq_ap, ↓tNext_ap, ↓tBreak_ap, ↓tCont_ap, ↓tRet_ap, ↓tRetN_ap, ↓tDrop_ap, ↓tIfS_ap, ↓tAsg_ap, ↓gName_ap, ↓gSub_ap, ↓tPar_ap', ↓tPar3_ap', ↓two_ap, ↓three_ap, ↓rI2_ap, ↓rI20_ap, ↓rAddU_i, ↓rAddU_s, ↓rU_ap, ↓rIxU_l', ↓rIxU_t', ↓ixL_0, ↓ixL_1, ↓ixL_2, ↓ixL_3, ↓rEq_ii, ↓rNe_ii, ↓rEq_bb, ↓rNe_bb, ↓rIntU_i, ↓rIntU_b, ↓rAbsU_i, ↓rStrU_i, ↓rSetU_l', ↓setL_0, ↓setL_1, ↓setL_2, ↓reduceIte, ↓List.set_cons_zero, ↓List.set_cons_succ, List.cons_append, List.nil_append, List.append_nil, decide_eq_true_eq, Bool.not_eq_true', decide_eq_false_iff_not, List.length_cons, List.length_nil, upd_upd, ↓rIxU_l d3, ↓b2]
      refine ⟨a2, i, v, rfl, hi, ((e2.keep sa).keep s3).keep s4, ?_⟩
      simp only [↓tVar_0, ↓tVar_s, ↓tC_ap, ↓tOp_ap, ↓tUn_ap, ↓asB_bl, ↓tTest_ap, ↓tB_ap, ↓tChain_ap, ↓tAnd_ap, ↓tOr_ap, ↓tNot_ap, ↓tNotV_ap, ↓tAndV_ap, ↓tOrV_ap, ↓tIf_ap, ↓tNil_ap, ↓tCons_ap, ↓tTup_ap, ↓tLst_ap, ↓tCB_ap, ↓tCall_ap, ↓tSeq_ap, ↓tNext_ap, ↓tBreak_ap, ↓tCont_ap, ↓tRet_ap, ↓tRetN_ap, ↓tDrop_ap, ↓tIfS_ap, ↓tAsg_ap, ↓gName_ap, ↓gSub_ap, ↓tPar_ap', ↓tPar3_ap', ↓two_ap, ↓three_ap, ↓rI2_ap, ↓rI20_ap, ↓rAddU_i, ↓rAddU_s, ↓rU_ap, ↓rIxU_l', ↓rIxU_t', ↓ixL_0, ↓ixL_1, ↓ixL_2, ↓ixL_3, ↓rEq_ii, ↓rNe_ii, ↓rEq_bb, ↓rNe_bb, ↓rIntU_i, ↓rIntU_b, ↓rAbsU_i, ↓rStrU_i, ↓rSetU_l', ↓setL_0, ↓setL_1, ↓setL_2, ↓reduceIte, ↓List.set_cons_zero, ↓List.set_cons_succ, List.cons_append, List.nil_append, List.append_nil, decide_eq_true_eq, Bool.not_eq_true', decide_eq_false_iff_not, List.length_cons, List.length_nil, upd_upd]
      refine ⟨rfl, SelfV.keep hv (sH.trans s24), ?_⟩
      simp only [↓tVar_0, ↓tVar_s, ↓tC_ap, ↓tOp_ap, ↓tUn_ap, ↓asB_bl, ↓tTest_ap, ↓tB_ap, ↓tChain_ap, ↓tAnd_ap, ↓tOr_ap, ↓tNot_ap, ↓tNotV_ap, ↓tAndV_ap, ↓tOrV_ap, ↓tIf_ap, ↓tNil_ap, ↓tCons_ap, ↓tTup_ap, ↓tLst_ap, ↓tCB_ap, ↓tCall_ap, ↓tSeq_ap, ↓tNext_ap, ↓tBreak_ap, ↓tCont_ap, ↓tRet_ap, ↓tRetN_ap, ↓tDrop_ap, ↓tIfS_ap, ↓tAsg_ap, ↓gName_ap, ↓gSub_ap, ↓tPar_ap', ↓tPar3_ap', ↓two_ap, ↓three_ap, ↓rI2_ap, ↓rI20_ap, ↓rAddU_i, ↓rAddU_s, ↓rU_ap, ↓rIxU_l', ↓rIxU_t', ↓ixL_0, ↓ixL_1, ↓ixL_2, ↓ixL_3, ↓rEq_ii, ↓rNe_ii, ↓rEq_bb, ↓rNe_bb, ↓rIntU_i, ↓rIntU_b, ↓rAbsU_i, ↓rStrU_i, ↓rSetU_l', ↓setL_0, ↓setL_1, ↓setL_2, ↓reduceIte, ↓List.set_cons_zero, ↓List.set_cons_succ, List.cons_append, List.nil_append, List.append_nil, decide_eq_true_eq, Bool.not_eq_true', decide_eq_false_iff_not, List.length_cons, List.length_nil, upd_upd]
      exact ⟨_, rfl, s24⟩
    · obtain ⟨o, rfl, sa⟩ := h
      simp only [↓tVar_0, ↓tVar_s, ↓tC_ap, ↓tOp_ap, ↓tUn_ap, ↓asB_bl, ↓tTest_ap, ↓tB_ap, ↓tChain_ap, ↓tAnd_ap, ↓tOr_ap, ↓tNot_ap, ↓tNotV_ap, ↓tAndV_ap, ↓tOrV_ap, ↓tIf_ap, ↓tNil_ap, ↓tCons_ap, ↓tTup_ap, ↓tLst_ap, ↓tCB_ap, ↓tCall_ap, ↓tSeq_ap, ↓tNext_ap, ↓tBreak_ap, ↓tCont_ap, ↓tRet_ap, ↓tRetN_ap, ↓tDrop_ap, ↓tIfS_ap, ↓tAsg_ap, ↓gName_ap, ↓gSub_ap, ↓tPar_ap', ↓tPar3_ap', ↓two_ap, ↓three_ap, ↓rI2_ap, ↓rI20_ap, ↓rAddU_i, ↓rAddU_s, ↓rU_ap, ↓rIxU_l', ↓rIxU_t', ↓ixL_0, ↓ixL_1, ↓ixL_2, ↓ixL_3, ↓rEq_ii, ↓rNe_ii, ↓rEq_bb, ↓rNe_bb, ↓rIntU_i, ↓rIntU_b, ↓rAbsU_i, ↓rStrU_i, ↓rSetU_l', ↓setL_0, ↓setL_1, ↓setL_2, ↓reduceIte, ↓List.set_cons_zero, ↓List.set_cons_succ, List.cons_append, List.nil_append, List.append_nil, decide_eq_true_eq, Bool.not_eq_true', decide_eq_false_iff_not, List.length_cons, List.length_nil, upd_upd]
      refine ⟨u, rfl, u, rfl, fun a H3 n3 s3 e3 => ?_⟩
      simp only [↓tVar_0, ↓tVar_s, ↓tC_ap, ↓tOp_ap, ↓tUn_ap, ↓asB_bl, ↓tTest_ap, ↓tB_ap, ↓tChain_ap, ↓tAnd_ap, ↓tOr_ap, ↓tNot_ap, ↓tNotV_ap, ↓tAndV_ap, ↓tOrV_ap, ↓tIf_ap, ↓tNil_ap, ↓tCons_ap, ↓tTup_ap, ↓tLst_ap, ↓tCB_ap, ↓tCall_ap, ↓tSeq_ap, ↓tNext_ap, ↓tBreak_ap, ↓tCont_ap, ↓tRet_ap, ↓tRetN_ap, ↓tDrop_ap, ↓tIfS_ap, ↓tAsg_ap, ↓gName_ap, ↓gSub_ap, ↓tPar_ap', ↓tPar3_ap', ↓two_ap, ↓three_ap, ↓rI2_ap, ↓rI20_ap, ↓rAddU_i, ↓rAddU_s, ↓rU_ap, ↓rIxU_l', ↓rIxU_t', ↓ixL_0, ↓ixL_1, ↓ixL_2, ↓ixL_3, ↓rEq_ii, ↓rNe_ii, ↓rEq_bb, ↓rNe_bb, ↓rIntU_i, ↓rIntU_b, ↓rAbsU_i, ↓rStrU_i, ↓rSetU_l', ↓setL_0, ↓setL_1, ↓setL_2, ↓reduceIte, ↓List.set_cons_zero, ↓List.set_cons_succ, List.cons_append, List.nil_append, List.append_nil, decide_eq_true_eq, Bool.not_eq_true', decide_eq_false_iff_not, List.length_cons, List.length_nil, upd_upd]
      refine ⟨.ref a, rfl, a, cM, _, u, rfl, e3, T.miss.k, T.miss.nf, rfl, ?_⟩
      simp only [↓tVar_0, ↓tVar_s, ↓tC_ap, ↓tOp_ap, ↓tUn_ap, ↓asB_bl, ↓tTest_ap, ↓tB_ap, ↓tChain_ap, ↓tAnd_ap, ↓tOr_ap, ↓tNot_ap, ↓tNotV_ap, ↓tAndV_ap, ↓tOrV_ap, ↓tIf_ap, ↓tNil_ap, ↓tCons_ap, ↓tTup_ap, ↓tLst_ap, ↓tCB_ap, ↓tCall_ap, ↓tSeq_ap, ↓tNext_ap, ↓tBreak_ap, ↓tCont_ap, ↓tRet_ap, ↓tRetN_ap, ↓tDrop_ap, ↓tIfS_ap, ↓tAsg_ap, ↓gName_ap, ↓gSub_ap, ↓tPar_ap', ↓tPar3_ap', ↓two_ap, ↓three_ap, ↓rI2_ap, ↓rI20_ap, ↓rAddU_i, ↓rAddU_s, ↓rU_ap, ↓rIxU_l', ↓rIxU_t', ↓ixL_0, ↓ixL_1, ↓ixL_2, ↓ixL_3, ↓rEq_ii, ↓rNe_ii, ↓rEq_bb, ↓rNe_bb, ↓rIntU_i, ↓rIntU_b, ↓rAbsU_i, ↓rStrU_i, ↓rSetU_l', ↓setL_0, ↓setL_1, ↓setL_2, ↓reduceIte, ↓List.set_cons_zero, ↓List.set_cons_succ, List.cons_append, List.nil_append, List.append_nil, decide_eq_true_eq, Bool.not_eq_true', decide_eq_false_iff_not, List.length_cons, List.length_nil, upd_upd]
      have s5 := (sH.trans sa).trans s3
      refine ⟨rfl, SelfV.keep hu s5, ?_⟩
      simp only [↓tVar_0, ↓tVar_s, ↓tC_ap, ↓tOp_ap, ↓tUn_ap, ↓asB_bl, ↓tTest_ap, ↓tB_ap, ↓tChain_ap, ↓tAnd_ap, ↓tOr_ap, ↓tNot_ap, ↓tNotV_ap, ↓tAndV_ap, ↓tOrV_ap, ↓tIf_ap, ↓tNil_ap, ↓tCons_ap, ↓tTup_ap, ↓tLst_ap, ↓tCB_ap, ↓tCall_ap, ↓tSeq_ap, ↓tNext_ap, ↓tBreak_ap, ↓tCont_ap, ↓tRet_ap, ↓tRetN_ap, ↓tDrop_ap, ↓tIfS_ap, ↓tAsg_ap, ↓gName_ap, ↓gSub_ap, ↓tPar_ap', ↓tPar3_ap', ↓two_ap, ↓three_ap, ↓rI2_ap, ↓rI20_ap, ↓rAddU_i, ↓rAddU_s, ↓rU_ap, ↓rIxU_l', ↓rIxU_t', ↓ixL_0, ↓ixL_1, ↓ixL_2, ↓ixL_3, ↓rEq_ii, ↓rNe_ii, ↓rEq_bb, ↓rNe_bb, ↓rIntU_i, ↓rIntU_b, ↓rAbsU_i, ↓rStrU_i, ↓rSetU_l', ↓setL_0, ↓setL_1, ↓setL_2, ↓reduceIte, ↓List.set_cons_zero, ↓List.set_cons_succ, List.cons_append, List.nil_append, List.append_nil, decide_eq_true_eq, Bool.not_eq_true', decide_eq_false_iff_not, List.length_cons, List.length_nil, upd_upd]
      have ty : ∀ {H' : Hp}, Same H3 H' → TyE K H' (.ref a) (.ref cM) := fun s => .inr ⟨a, cM, _, rfl, rfl, T.miss.k, .inl (e3.keep s)⟩
      refine ⟨.ref a, .ref cT, _, .ref cT, _, rfl, .own cT, ty (fun _ _ e => e), T.kitMT, ?_⟩
      simp only [↓tVar_0, ↓tVar_s, ↓tC_ap, ↓tOp_ap, ↓tUn_ap, ↓asB_bl, ↓tTest_ap, ↓tB_ap, ↓tChain_ap, ↓tAnd_ap, ↓tOr_ap, ↓tNot_ap, ↓tNotV_ap, ↓tAndV_ap, ↓tOrV_ap, ↓tIf_ap, ↓tNil_ap, ↓tCons_ap, ↓tTup_ap, ↓tLst_ap, ↓tCB_ap, ↓tCall_ap, ↓tSeq_ap, ↓tNext_ap, ↓tBreak_ap, ↓tCont_ap, ↓tRet_ap, ↓tRetN_ap, ↓tDrop_ap, ↓tIfS_ap, ↓tAsg_ap, ↓gName_ap, ↓gSub_ap, ↓tPar_ap', ↓tPar3_ap', ↓two_ap, ↓three_ap, ↓rI2_ap, ↓rI20_ap, ↓rAddU_i, ↓rAddU_s, ↓rU_ap, ↓rIxU_l', ↓rIxU_t', ↓ixL_0, ↓ixL_1, ↓ixL_2, ↓ixL_3, ↓rEq_ii, ↓rNe_ii, ↓rEq_bb, ↓rNe_bb, ↓rIntU_i, ↓rIntU_b, ↓rAbsU_i, ↓rStrU_i, ↓rSetU_l', ↓setL_0, ↓setL_1, ↓setL_2, ↓reduceIte, ↓List.set_cons_zero, ↓List.set_cons_succ, List.cons_append, List.nil_append, List.append_nil, decide_eq_true_eq, Bool.not_eq_true', decide_eq_false_iff_not, List.length_cons, List.length_nil, upd_upd]
      refine ⟨by decide, fun p hp => ?_⟩
      have s6 := same_new (o := .tup [V.ref (cl 12), V.ref (cl 13), V.ref (cl 14), V.ref (cl 15), V.ref (cl 16), V.ref (cl 17)]) hp
      refine ⟨.ref a, p, _, _, _, _, rfl, upd_same, .cons (.own _) (.cons (.own _) (.cons (.own _) (.cons (.own _) (.cons (.own _) (.cons (.own _) .nil))))), ty s6, T.kitMB, ?_⟩
      have s7 := s5.trans s6
      generalize upd H3 p (.tup [V.ref (cl 12), V.ref (cl 13), V.ref (cl 14), V.ref (cl 15), V.ref (cl 16), V.ref (cl 17)]) = H4 at s6 s7 ⊢
      simp only [↓tVar_0, ↓tVar_s, ↓tC_ap, ↓tOp_ap, ↓tUn_ap, ↓asB_bl, ↓tTest_ap, ↓tB_ap, ↓tChain_ap, ↓tAnd_ap, ↓tOr_ap, ↓tNot_ap, ↓tNotV_ap, ↓tAndV_ap, ↓tOrV_ap, ↓tIf_ap, ↓tNil_ap, ↓tCons_ap, ↓tTup_ap, ↓tLst_ap, ↓tCB_ap, ↓tCall_ap, ↓tSeq_ap, ↓tNext_ap, ↓tBreak_ap, ↓tCont_ap, ↓tRet_ap, ↓tRetN_ap, ↓tDrop_ap, ↓tIfS_ap, ↓tAsg_ap, ↓gName_ap, ↓gSub_ap, ↓tPar_ap', ↓tPar3_ap', ↓two_ap, ↓three_ap, ↓rI2_ap, ↓rI20_ap, ↓rAddU_i, ↓rAddU_s, ↓rU_ap, ↓rIxU_l', ↓rIxU_t', ↓ixL_0, ↓ixL_1, ↓ixL_2, ↓ixL_3, ↓rEq_ii, ↓rNe_ii, ↓rEq_bb, ↓rNe_bb, ↓rIntU_i, ↓rIntU_b, ↓rAbsU_i, ↓rStrU_i, ↓rSetU_l', ↓setL_0, ↓setL_1, ↓setL_2, ↓reduceIte, ↓List.set_cons_zero, ↓List.set_cons_succ, List.cons_append, List.nil_append, List.append_nil, decide_eq_true_eq, Bool.not_eq_true', decide_eq_false_iff_not, List.length_cons, List.length_nil, upd_upd]
      refine ⟨v, rfl, v, rfl, fun a2 H5 n5 s8 e5 => ⟨a2, cM, _, v, rfl, e5, T.miss.k, T.miss.nf, rfl, ?_⟩⟩
      simp only [↓tVar_0, ↓tVar_s, ↓tC_ap, ↓tOp_ap, ↓tUn_ap, ↓asB_bl, ↓tTest_ap, ↓tB_ap, ↓tChain_ap, ↓tAnd_ap, ↓tOr_ap, ↓tNot_ap, ↓tNotV_ap, ↓tAndV_ap, ↓tOrV_ap, ↓tIf_ap, ↓tNil_ap, ↓tCons_ap, ↓tTup_ap, ↓tLst_ap, ↓tCB_ap, ↓tCall_ap, ↓tSeq_ap, ↓tNext_ap, ↓tBreak_ap, ↓tCont_ap, ↓tRet_ap, ↓tRetN_ap, ↓tDrop_ap, ↓tIfS_ap, ↓tAsg_ap, ↓gName_ap, ↓gSub_ap, ↓tPar_ap', ↓tPar3_ap', ↓two_ap, ↓three_ap, ↓rI2_ap, ↓rI20_ap, ↓rAddU_i, ↓rAddU_s, ↓rU_ap, ↓rIxU_l', ↓rIxU_t', ↓ixL_0, ↓ixL_1, ↓ixL_2, ↓ixL_3, ↓rEq_ii, ↓rNe_ii, ↓rEq_bb, ↓rNe_bb, ↓rIntU_i, ↓rIntU_b, ↓rAbsU_i, ↓rStrU_i, ↓rSetU_l', ↓setL_0, ↓setL_1, ↓setL_2, ↓reduceIte, ↓List.set_cons_zero, ↓List.set_cons_succ, List.cons_append, List.nil_append, List.append_nil, decide_eq_true_eq, Bool.not_eq_true', decide_eq_false_iff_not, List.length_cons, List.length_nil, upd_upd]
      refine ⟨rfl, SelfV.keep hv (s7.trans s8), ?_⟩
      simp only [↓tVar_0, ↓tVar_s, ↓tC_ap, ↓tOp_ap, ↓tUn_ap, ↓asB_bl, ↓tTest_ap, ↓tB_ap, ↓tChain_ap, ↓tAnd_ap, ↓tOr_ap, ↓tNot_ap, ↓tNotV_ap, ↓tAndV_ap, ↓tOrV_ap, ↓tIf_ap, ↓tNil_ap, ↓tCons_ap, ↓tTup_ap, ↓tLst_ap, ↓tCB_ap, ↓tCall_ap, ↓tSeq_ap, ↓tNext_ap, ↓tBreak_ap, ↓tCont_ap, ↓tRet_ap, ↓tRetN_ap, ↓tDrop_ap, ↓tIfS_ap, ↓tAsg_ap, ↓gName_ap, ↓gSub_ap, ↓tPar_ap', ↓tPar3_ap', ↓two_ap, ↓three_ap, ↓rI2_ap, ↓rI20_ap, ↓rAddU_i, ↓rAddU_s, ↓rU_ap, ↓rIxU_l', ↓rIxU_t', ↓ixL_0, ↓ixL_1, ↓ixL_2, ↓ixL_3, ↓rEq_ii, ↓rNe_ii, ↓rEq_bb, ↓rNe_bb, ↓rIntU_i, ↓rIntU_b, ↓rAbsU_i, ↓rStrU_i, ↓rSetU_l', ↓setL_0, ↓setL_1, ↓setL_2, ↓reduceIte, ↓List.set_cons_zero, ↓List.set_cons_succ, List.cons_append, List.nil_append, List.append_nil, decide_eq_true_eq, Bool.not_eq_true', decide_eq_false_iff_not, List.length_cons, List.length_nil, upd_upd]
      refine fun a3 n3 => ⟨a3, 20, rfl, by decide, .inr upd_same, fun H6 s9 => ?_⟩
      exact k H6 (((s7.trans s8).trans (same_new n3)).trans s9)
end
end K00

set_option Elab.async false
set_option linter.all false
set_option maxRecDepth 100000
set_option maxHeartbeats 4000000
namespace K00
open PySem PySem.Spec L2 U
open PyProof.Rows hiding St
abbrev slaw : Stmt := top 38
theorem sc_law : FnScope ["_law_script", "_law_bag_here", "_law_turn", "_law_one", "_law_other", "_law_number"] ["_law_script"] (defScope slaw) := ⟨rfl, rfl, rfl, by decide +kernel, rfl, by decide +kernel, by decide +kernel⟩
section
variable {P : Program} {w : World} {K : PySem.W.Frag} {mg : Str → Option Value} {base : Heap} {cl : Nat → Addr} {cM cT : Addr}
def spLaw (K : PySem.W.Frag) : Sp := fun vs H Q _ => ∃ (a : Addr) (ns : List Int), vs = [.ref a] ∧ SqL K H a (ns.map V.int) ∧ ∀ H', Q (.bl true) H'
theorem SelfV.but {H H' : Hp} {b : Addr} {x : V} (h : SelfV K H x) (n : x ≠ .ref b) (s : But b H H') : SelfV K H' x := by
  rcases h with h | ⟨a, rfl, h⟩
  · exact .inl h
  · have na : a ≠ b := fun e => n (by rw [e])
    refine .inr ⟨a, rfl, ?_⟩
    rcases h with ⟨xs, hx, hs⟩ | ⟨ks, hk, hn, hs⟩ | ⟨C, d, hc, T⟩
    · exact .inl ⟨xs, hx.imp (fun e => s _ _ e na) (fun e => s _ _ e na), hs⟩
    · exact .inr (.inl ⟨ks, s _ _ hk na, hn, hs⟩)
    · exact .inr (.inr ⟨C, d, s _ _ hc na, T⟩)
theorem SelfV.same {H : Hp} {x : V} (h : SelfV K H x) : SameV x x := by
  rcases h with h | ⟨a, rfl, _⟩
  · exact ⟨rfl, .inl h⟩
  · exact ⟨rfl, .inr ⟨a, rfl⟩⟩
/-- the told tuples -/
def Told (H : Hp) (v : V) (ns cs : List Nat) : Prop := Paired (fun j c => H c = some (.tup [.str (word j), v])) ns cs
theorem Told.keep {H H' : Hp} {v : V} {ns cs : List Nat} (h : Told H v ns cs) (s : Same H H') : Told H' v ns cs := by
  unfold Told at h ⊢
  induction h with
  | nil => exact .nil
  | cons a _ ih => exact .cons (s _ _ a) ih
theorem Told.at_list {H : Hp} {v : V} {ns cs : List Nat} {D : Addr} {xs ys : List V} (h : Told H v ns cs) (hD : H D = some (.lst xs)) : Told (upd H D (.lst ys)) v ns cs := by
  unfold Told at h ⊢
  induction h with
  | nil => exact .nil
  | cons a _ ih =>
    refine .cons ?_ ih
    rw [upd_ne]
    · exact a
    · intro e
      rw [e, hD] at a
      cases a
theorem Told.snoc {H : Hp} {v : V} {ns cs : List Nat} {n c : Nat} (h : Told H v ns cs) (k : H c = some (.tup [.str (word n), v])) : Told H v (ns ++ [n]) (cs ++ [c]) := by
  unfold Told at h ⊢
  induction h with
  | nil => exact .cons k .nil
  | cons a _ ih => exact .cons a ih
theorem Told.len {H : Hp} {v : V} {ns cs : List Nat} (h : Told H v ns cs) : cs.length = ns.length := (Paired.length h).symm
theorem told_three {H : Hp} {v : V} {cs : List Nat} (h : Told H v [0, 1, 2] cs) : ∃ a b c, cs = [a, b, c] ∧ H a = some (.tup [.str "missing", v]) ∧ H b = some (.tup [.str "twice", v]) ∧ H c = some (.tup [.str "thin", v]) := by
  unfold Told at h
  cases h with
  | cons h0 r =>
    cases r with
    | cons h1 r =>
      cases r with
      | cons h2 r =>
        cases r
        exact ⟨_, _, _, rfl, h0, h1, h2⟩
theorem ok_law {f : Addr} {fd : FuncData} (B : Blt mg) (T : Ers P w K mg base cl cM cT) (O_bag : Ok P w K mg base CX0 "_law_bag" 1 ["_law_script"] (spBag K)) (O_field : Ok P w K mg base CX0 "_law_field" 3 ["_law_bag_here"] (spField K))
    (O_single : Ok P w K mg base CX0 "_law_single_right" 4 ["_law_one", "_law_other"] (spDouble K)) (O_double : Ok P w K mg base CX0 "_law_double_right" 3 ["_law_one", "_law_other"] (spDouble K)) (O_caught : Ok P w K mg base CX0 "_law_caught" 4 ["_law_number", "_law_field_here"] spCaught)
    (F : Fun K "law" "law" slaw f fd) : FnOk P w K mg base CX0 5 f fd ["_law_script"] (spLaw K) := by
  refine F.ok sc_law (fun vs H Q E h => ?_) (fun cdv A outer s H vs Q E hr h => ?_)
  · obtain ⟨a, ns, rfl, _⟩ := h
    rfl
  · obtain ⟨a, ns, rfl, hS, k⟩ := h
    have nd := sc_law.nd
    refine ⟨_, (pss_cons (ps_set (i := 1) nd rfl (Or.inl rfl) (pe_callO O_bag (hr.mono (by decide)) (by rfl) (pa_cons (pv 0) pa_nil)))
        (pss_cons (ps_for PassesOwn.never rfl (pi_range1 (by rfl) B.range (pa_cons pe_int pa_nil)) (pg_name (i := 2) nd rfl (Or.inl rfl)) (pss_cons (ps_asg (pe_tup (pa_cons (pe_callO O_field (hr.mono (by decide)) (by rfl) (pa_cons (pv 1) pa_nil)) (pa_cons (pe_callO O_field (hr.mono (by decide)) (by rfl) (pa_cons (pv 1) pa_nil)) pa_nil))) (pg_tup rfl (pgs_cons (pg_name (i := 3) nd rfl (Or.inr rfl)) (pgs_cons (pg_name (i := 4) nd rfl (Or.inl rfl)) pgs_nil))))
        (pss_cons (ps_if (pw_or (pt_not (pt_val (pe_callO O_single (hr.mono (by decide)) (by rfl) (pa_cons (pv 3) (pa_cons (pv 4) pa_nil))))) (pw_or (pt_not (pt_val (pe_callO O_double (hr.mono (by decide)) (by rfl) (pa_cons (pv 3) (pa_cons (pv 4) pa_nil))))) (pw_or1 (pt_not (pt_val (pe_callO O_double (hr.mono (by decide)) (by rfl) (pa_cons (pv 4) (pa_cons (pv 3) pa_nil)))))))).pt (pss_one (ps_ret pe_bl)) pss_nil)
        (pss_one (ps_if (pt_cmpR (op_neRows (room2 hr.units)) (pe_lc (own := [("_law_number", 5)]) (g := gName 5) (tt := tYes) rfl nd (pi_range1 (by rfl) B.range (pa_cons pe_int pa_nil)) (blkOk_by (N := ["_law_script", "_law_bag_here", "_law_turn", "_law_one", "_law_other", "_law_number"]) (sc := defScope slaw) (by decide +kernel)) (fun _ _ _ _ _ => pg_name (i := 5) nd rfl (Or.inl rfl)) (fun _ _ _ _ _ => pts_nil) (fun _ _ _ _ _ => (pe_callO O_caught (hr.mono (by decide)) (by rfl) (pa_cons (pv 5) (pa_cons (pv 3) pa_nil))))) (pe_lst (pa_cons (pe_tup (pa_cons pe_str (pa_cons (pv 3) pa_nil))) (pa_cons (pe_tup (pa_cons pe_str (pa_cons (pv 3) pa_nil))) (pa_cons (pe_tup (pa_cons pe_str (pa_cons (pv 3) pa_nil))) pa_nil)))) (nomark _)) (pss_one (ps_ret pe_bl)) pss_nil)))))
        (pss_one (ps_ret pe_bl)))), ?_⟩
    rw [show start ["_law_script", "_law_bag_here", "_law_turn", "_law_one", "_law_other", "_law_number"] [.ref a] = [some (.ref a), none, none, none, none, none] from rfl]
    simp only [↓tVar_0, ↓tVar_s, ↓tC_ap, ↓tOp_ap, ↓tUn_ap, ↓asB_bl, ↓tTest_ap, ↓tB_ap, ↓tChain_ap, ↓tAnd_ap, ↓tOr_ap, ↓tNot_ap, ↓tNotV_ap, ↓tAndV_ap, ↓tOrV_ap, ↓tIf_ap, ↓tNil_ap, ↓tCons_ap, ↓tTup_ap, ↓tLst_ap, ↓tCB_ap, ↓tCall_ap, ↓tSeq_ap, ↓tNext_ap, ↓tBreak_ap, ↓tCont_ap, ↓tRet_ap, ↓tRetN_ap, ↓tDrop_ap, ↓tIfS_ap, ↓tAsg_ap, ↓gName_ap, ↓gSub_ap, ↓tPar_ap', ↓tPar3_ap', ↓two_ap, ↓three_ap, ↓rI2_ap, ↓rI20_ap, ↓rAddU_i, ↓rAddU_s, ↓rU_ap, ↓rIxU_l', ↓rIxU_t', ↓ixL_0, ↓ixL_1, ↓ixL_2, ↓ixL_3, ↓rEq_ii, ↓rNe_ii, ↓rEq_bb, ↓rNe_bb, ↓rIntU_i, ↓rIntU_b, ↓rAbsU_i, ↓rStrU_i, ↓rSetU_l', ↓setL_0, ↓setL_1, ↓setL_2, ↓reduceIte, ↓List.set_cons_zero, ↓List.set_cons_succ, List.cons_append, List.nil_append, List.append_nil, decide_eq_true_eq, Bool.not_eq_true', decide_eq_false_iff_not, List.length_cons, List.length_nil, upd_upd]
    refine ⟨a, ns, rfl, hS, fun b H1 n0 n2 s1 n1 hb ok => ?_⟩
    simp only [↓tVar_0, ↓tVar_s, ↓tC_ap, ↓tOp_ap, ↓tUn_ap, ↓asB_bl, ↓tTest_ap, ↓tB_ap, ↓tChain_ap, ↓tAnd_ap, ↓tOr_ap, ↓tNot_ap, ↓tNotV_ap, ↓tAndV_ap, ↓tOrV_ap, ↓tIf_ap, ↓tNil_ap, ↓tCons_ap, ↓tTup_ap, ↓tLst_ap, ↓tCB_ap, ↓tCall_ap, ↓tSeq_ap, ↓tNext_ap, ↓tBreak_ap, ↓tCont_ap, ↓tRet_ap, ↓tRetN_ap, ↓tDrop_ap, ↓tIfS_ap, ↓tAsg_ap, ↓gName_ap, ↓gSub_ap, ↓tPar_ap', ↓tPar3_ap', ↓two_ap, ↓three_ap, ↓rI2_ap, ↓rI20_ap, ↓rAddU_i, ↓rAddU_s, ↓rU_ap, ↓rIxU_l', ↓rIxU_t', ↓ixL_0, ↓ixL_1, ↓ixL_2, ↓ixL_3, ↓rEq_ii, ↓rNe_ii, ↓rEq_bb, ↓rNe_bb, ↓rIntU_i, ↓rIntU_b, ↓rAbsU_i, ↓rStrU_i, ↓rSetU_l', ↓setL_0, ↓setL_1, ↓setL_2, ↓reduceIte, ↓List.set_cons_zero, ↓List.set_cons_succ, List.cons_append, List.nil_append, List.append_nil, decide_eq_true_eq, Bool.not_eq_true', decide_eq_false_iff_not, List.length_cons, List.length_nil, upd_upd]
    refine ⟨4, rfl, by decide, by decide, for_range (lo := 0) (fun i σ H' => ∃ o2 o3 o4 o5 m0 m1, σ = [some (.ref a), some (.ref b), o2, o3, o4, o5] ∧ H' b = some (bag m0 m1 n2) ∧ BagOk m0 m1 n2 ∧ m1 ≤ 6 * (i : Int)) ⟨_, _, _, _, n0, 0, rfl, hb, ok, by omega⟩ ?_ (fun σ H' h => ?_)⟩
    · rintro i σ H2 hi ⟨o2, o3, o4, o5, m0, m1, rfl, hb2, ok2, l2⟩
      have hi : i < 4 := hi
      simp only [↓tVar_0, ↓tVar_s, ↓tC_ap, ↓tOp_ap, ↓tUn_ap, ↓asB_bl, ↓tTest_ap, ↓tB_ap, ↓tChain_ap, ↓tAnd_ap, ↓tOr_ap, ↓tNot_ap, ↓tNotV_ap, ↓tAndV_ap, ↓tOrV_ap, ↓tIf_ap, ↓tNil_ap, ↓tCons_ap, ↓tTup_ap, ↓tLst_ap, ↓tCB_ap, ↓tCall_ap, ↓tSeq_ap, ↓tNext_ap, ↓tBreak_ap, ↓tCont_ap, ↓tRet_ap, ↓tRetN_ap, ↓tDrop_ap, ↓tIfS_ap, ↓tAsg_ap, ↓gName_ap, ↓gSub_ap, ↓tPar_ap', ↓tPar3_ap', ↓two_ap, ↓three_ap, ↓rI2_ap, ↓rI20_ap, ↓rAddU_i, ↓rAddU_s, ↓rU_ap, ↓rIxU_l', ↓rIxU_t', ↓ixL_0, ↓ixL_1, ↓ixL_2, ↓ixL_3, ↓rEq_ii, ↓rNe_ii, ↓rEq_bb, ↓rNe_bb, ↓rIntU_i, ↓rIntU_b, ↓rAbsU_i, ↓rStrU_i, ↓rSetU_l', ↓setL_0, ↓setL_1, ↓setL_2, ↓reduceIte, ↓List.set_cons_zero, ↓List.set_cons_succ, List.cons_append, List.nil_append, List.append_nil, decide_eq_true_eq, Bool.not_eq_true', decide_eq_false_iff_not, List.length_cons, List.length_nil, upd_upd]
      refine ⟨b, m0, m1, n2, rfl, hb2, ok2, by omega, fun u H3 q0 q1 bt3 hb3 ok3 l3 fu => ?_⟩
      simp only [↓tVar_0, ↓tVar_s, ↓tC_ap, ↓tOp_ap, ↓tUn_ap, ↓asB_bl, ↓tTest_ap, ↓tB_ap, ↓tChain_ap, ↓tAnd_ap, ↓tOr_ap, ↓tNot_ap, ↓tNotV_ap, ↓tAndV_ap, ↓tOrV_ap, ↓tIf_ap, ↓tNil_ap, ↓tCons_ap, ↓tTup_ap, ↓tLst_ap, ↓tCB_ap, ↓tCall_ap, ↓tSeq_ap, ↓tNext_ap, ↓tBreak_ap, ↓tCont_ap, ↓tRet_ap, ↓tRetN_ap, ↓tDrop_ap, ↓tIfS_ap, ↓tAsg_ap, ↓gName_ap, ↓gSub_ap, ↓tPar_ap', ↓tPar3_ap', ↓two_ap, ↓three_ap, ↓rI2_ap, ↓rI20_ap, ↓rAddU_i, ↓rAddU_s, ↓rU_ap, ↓rIxU_l', ↓rIxU_t', ↓ixL_0, ↓ixL_1, ↓ixL_2, ↓ixL_3, ↓rEq_ii, ↓rNe_ii, ↓rEq_bb, ↓rNe_bb, ↓rIntU_i, ↓rIntU_b, ↓rAbsU_i, ↓rStrU_i, ↓rSetU_l', ↓setL_0, ↓setL_1, ↓setL_2, ↓reduceIte, ↓List.set_cons_zero, ↓List.set_cons_succ, List.cons_append, List.nil_append, List.append_nil, decide_eq_true_eq, Bool.not_eq_true', decide_eq_false_iff_not, List.length_cons, List.length_nil, upd_upd]
      refine ⟨b, q0, q1, n2, rfl, hb3, ok3, by omega, fun v H4 r0 r1 bt4 hb4 ok4 l4 fv => ?_⟩
      simp only [↓tVar_0, ↓tVar_s, ↓tC_ap, ↓tOp_ap, ↓tUn_ap, ↓asB_bl, ↓tTest_ap, ↓tB_ap, ↓tChain_ap, ↓tAnd_ap, ↓tOr_ap, ↓tNot_ap, ↓tNotV_ap, ↓tAndV_ap, ↓tOrV_ap, ↓tIf_ap, ↓tNil_ap, ↓tCons_ap, ↓tTup_ap, ↓tLst_ap, ↓tCB_ap, ↓tCall_ap, ↓tSeq_ap, ↓tNext_ap, ↓tBreak_ap, ↓tCont_ap, ↓tRet_ap, ↓tRetN_ap, ↓tDrop_ap, ↓tIfS_ap, ↓tAsg_ap, ↓gName_ap, ↓gSub_ap, ↓tPar_ap', ↓tPar3_ap', ↓two_ap, ↓three_ap, ↓rI2_ap, ↓rI20_ap, ↓rAddU_i, ↓rAddU_s, ↓rU_ap, ↓rIxU_l', ↓rIxU_t', ↓ixL_0, ↓ixL_1, ↓ixL_2, ↓ixL_3, ↓rEq_ii, ↓rNe_ii, ↓rEq_bb, ↓rNe_bb, ↓rIntU_i, ↓rIntU_b, ↓rAbsU_i, ↓rStrU_i, ↓rSetU_l', ↓setL_0, ↓setL_1, ↓setL_2, ↓reduceIte, ↓List.set_cons_zero, ↓List.set_cons_succ, List.cons_append, List.nil_append, List.append_nil, decide_eq_true_eq, Bool.not_eq_true', decide_eq_false_iff_not, List.length_cons, List.length_nil, upd_upd]
      refine ⟨by decide, fun p hp => ⟨p, [u, v], rfl, SqT.of upd_same, rfl, u, [v], rfl, ?_⟩⟩
      refine ⟨v, [], rfl, ?_⟩
      refine ⟨rfl, ?_⟩
      have s5 := same_new (o := .tup [u, v]) hp
      generalize upd H4 p (.tup [u, v]) = H5 at s5 ⊢
      have su := SelfV.keep (SelfV.but fu.1 fu.2 bt4) s5
      have sv := SelfV.keep fv.1 s5
      simp only [↓tVar_0, ↓tVar_s, ↓tC_ap, ↓tOp_ap, ↓tUn_ap, ↓asB_bl, ↓tTest_ap, ↓tB_ap, ↓tChain_ap, ↓tAnd_ap, ↓tOr_ap, ↓tNot_ap, ↓tNotV_ap, ↓tAndV_ap, ↓tOrV_ap, ↓tIf_ap, ↓tNil_ap, ↓tCons_ap, ↓tTup_ap, ↓tLst_ap, ↓tCB_ap, ↓tCall_ap, ↓tSeq_ap, ↓tNext_ap, ↓tBreak_ap, ↓tCont_ap, ↓tRet_ap, ↓tRetN_ap, ↓tDrop_ap, ↓tIfS_ap, ↓tAsg_ap, ↓gName_ap, ↓gSub_ap, ↓tPar_ap', ↓tPar3_ap', ↓two_ap, ↓three_ap, ↓rI2_ap, ↓rI20_ap, ↓rAddU_i, ↓rAddU_s, ↓rU_ap, ↓rIxU_l', ↓rIxU_t', ↓ixL_0, ↓ixL_1, ↓ixL_2, ↓ixL_3, ↓rEq_ii, ↓rNe_ii, ↓rEq_bb, ↓rNe_bb, ↓rIntU_i, ↓rIntU_b, ↓rAbsU_i, ↓rStrU_i, ↓rSetU_l', ↓setL_0, ↓setL_1, ↓setL_2, ↓reduceIte, ↓List.set_cons_zero, ↓List.set_cons_succ, List.cons_append, List.nil_append, List.append_nil, decide_eq_true_eq, Bool.not_eq_true', decide_eq_false_iff_not, List.length_cons, List.length_nil, upd_upd]
      refine ⟨u, v, rfl, su, sv, fun H6 s6 => ?_⟩
      simp only [↓tVar_0, ↓tVar_s, ↓tC_ap, ↓tOp_ap, ↓tUn_ap, ↓asB_bl, ↓tTest_ap, ↓tB_ap, ↓tChain_ap, ↓tAnd_ap, ↓tOr_ap, ↓tNot_ap, ↓tNotV_ap, ↓tAndV_ap, ↓tOrV_ap, ↓tIf_ap, ↓tNil_ap, ↓tCons_ap, ↓tTup_ap, ↓tLst_ap, ↓tCB_ap, ↓tCall_ap, ↓tSeq_ap, ↓tNext_ap, ↓tBreak_ap, ↓tCont_ap, ↓tRet_ap, ↓tRetN_ap, ↓tDrop_ap, ↓tIfS_ap, ↓tAsg_ap, ↓gName_ap, ↓gSub_ap, ↓tPar_ap', ↓tPar3_ap', ↓two_ap, ↓three_ap, ↓rI2_ap, ↓rI20_ap, ↓rAddU_i, ↓rAddU_s, ↓rU_ap, ↓rIxU_l', ↓rIxU_t', ↓ixL_0, ↓ixL_1, ↓ixL_2, ↓ixL_3, ↓rEq_ii, ↓rNe_ii, ↓rEq_bb, ↓rNe_bb, ↓rIntU_i, ↓rIntU_b, ↓rAbsU_i, ↓rStrU_i, ↓rSetU_l', ↓setL_0, ↓setL_1, ↓setL_2, ↓reduceIte, ↓List.set_cons_zero, ↓List.set_cons_succ, List.cons_append, List.nil_append, List.append_nil, decide_eq_true_eq, Bool.not_eq_true', decide_eq_false_iff_not, List.length_cons, List.length_nil, upd_upd]
      refine ⟨u, v, rfl, SelfV.keep su s6, SelfV.keep sv s6, fun H7 s7 => ?_⟩
      simp only [↓tVar_0, ↓tVar_s, ↓tC_ap, ↓tOp_ap, ↓tUn_ap, ↓asB_bl, ↓tTest_ap, ↓tB_ap, ↓tChain_ap, ↓tAnd_ap, ↓tOr_ap, ↓tNot_ap, ↓tNotV_ap, ↓tAndV_ap, ↓tOrV_ap, ↓tIf_ap, ↓tNil_ap, ↓tCons_ap, ↓tTup_ap, ↓tLst_ap, ↓tCB_ap, ↓tCall_ap, ↓tSeq_ap, ↓tNext_ap, ↓tBreak_ap, ↓tCont_ap, ↓tRet_ap, ↓tRetN_ap, ↓tDrop_ap, ↓tIfS_ap, ↓tAsg_ap, ↓gName_ap, ↓gSub_ap, ↓tPar_ap', ↓tPar3_ap', ↓two_ap, ↓three_ap, ↓rI2_ap, ↓rI20_ap, ↓rAddU_i, ↓rAddU_s, ↓rU_ap, ↓rIxU_l', ↓rIxU_t', ↓ixL_0, ↓ixL_1, ↓ixL_2, ↓ixL_3, ↓rEq_ii, ↓rNe_ii, ↓rEq_bb, ↓rNe_bb, ↓rIntU_i, ↓rIntU_b, ↓rAbsU_i, ↓rStrU_i, ↓rSetU_l', ↓setL_0, ↓setL_1, ↓setL_2, ↓reduceIte, ↓List.set_cons_zero, ↓List.set_cons_succ, List.cons_append, List.nil_append, List.append_nil, decide_eq_true_eq, Bool.not_eq_true', decide_eq_false_iff_not, List.length_cons, List.length_nil, upd_upd]
      have s67 := s6.trans s7
      refine ⟨v, u, rfl, SelfV.keep sv s67, SelfV.keep su s67, fun H8 s8 => ?_⟩
      have s58 := s67.trans s8
      have hb8 := s58 _ _ (s5 _ _ hb4)
      have su8 := SelfV.keep su s58
      simp only [↓tVar_0, ↓tVar_s, ↓tC_ap, ↓tOp_ap, ↓tUn_ap, ↓asB_bl, ↓tTest_ap, ↓tB_ap, ↓tChain_ap, ↓tAnd_ap, ↓tOr_ap, ↓tNot_ap, ↓tNotV_ap, ↓tAndV_ap, ↓tOrV_ap, ↓tIf_ap, ↓tNil_ap, ↓tCons_ap, ↓tTup_ap, ↓tLst_ap, ↓tCB_ap, ↓tCall_ap, ↓tSeq_ap, ↓tNext_ap, ↓tBreak_ap, ↓tCont_ap, ↓tRet_ap, ↓tRetN_ap, ↓tDrop_ap, ↓tIfS_ap, ↓tAsg_ap, ↓gName_ap, ↓gSub_ap, ↓tPar_ap', ↓tPar3_ap', ↓two_ap, ↓three_ap, ↓rI2_ap, ↓rI20_ap, ↓rAddU_i, ↓rAddU_s, ↓rU_ap, ↓rIxU_l', ↓rIxU_t', ↓ixL_0, ↓ixL_1, ↓ixL_2, ↓ixL_3, ↓rEq_ii, ↓rNe_ii, ↓rEq_bb, ↓rNe_bb, ↓rIntU_i, ↓rIntU_b, ↓rAbsU_i, ↓rStrU_i, ↓rSetU_l', ↓setL_0, ↓setL_1, ↓setL_2, ↓reduceIte, ↓List.set_cons_zero, ↓List.set_cons_succ, List.cons_append, List.nil_append, List.append_nil, decide_eq_true_eq, Bool.not_eq_true', decide_eq_false_iff_not, List.length_cons, List.length_nil, upd_upd]
      refine ⟨3, rfl, by decide, by decide, fun D hD => lc_range (lo := 0) (Pv := fun j H' => ∃ cs, H' D = some (.lst (cs.map V.ref)) ∧ Same H8 H' ∧ Told H' u (List.range j) cs) ⟨[], upd_same, same_new hD, .nil⟩ (fun j H' hj h => ?_) (fun H' h => ?_)⟩
      · obtain ⟨cs, hDl, sa, tl⟩ := h
        have hj : j < 3 := hj
        refine ⟨rfl, ?_⟩
        show tCall spCaught [] E0 (tCons (tVar 5) (tCons (tVar 3) tNil)) _ _ _
        simp only [List.map_cons, List.map_nil, wipe, Int.zero_add, ↓tVar_0, ↓tVar_s, ↓tC_ap, ↓tOp_ap, ↓tUn_ap, ↓asB_bl, ↓tTest_ap, ↓tB_ap, ↓tChain_ap, ↓tAnd_ap, ↓tOr_ap, ↓tNot_ap, ↓tNotV_ap, ↓tAndV_ap, ↓tOrV_ap, ↓tIf_ap, ↓tNil_ap, ↓tCons_ap, ↓tTup_ap, ↓tLst_ap, ↓tCB_ap, ↓tCall_ap, ↓tSeq_ap, ↓tNext_ap, ↓tBreak_ap, ↓tCont_ap, ↓tRet_ap, ↓tRetN_ap, ↓tDrop_ap, ↓tIfS_ap, ↓tAsg_ap, ↓gName_ap, ↓gSub_ap, ↓tPar_ap', ↓tPar3_ap', ↓two_ap, ↓three_ap, ↓rI2_ap, ↓rI20_ap, ↓rAddU_i, ↓rAddU_s, ↓rU_ap, ↓rIxU_l', ↓rIxU_t', ↓ixL_0, ↓ixL_1, ↓ixL_2, ↓ixL_3, ↓rEq_ii, ↓rNe_ii, ↓rEq_bb, ↓rNe_bb, ↓rIntU_i, ↓rIntU_b, ↓rAbsU_i, ↓rStrU_i, ↓rSetU_l', ↓setL_0, ↓setL_1, ↓setL_2, ↓reduceIte, ↓List.set_cons_zero, ↓List.set_cons_succ, List.cons_append, List.nil_append, List.append_nil, decide_eq_true_eq, Bool.not_eq_true', decide_eq_false_iff_not, List.length_cons, List.length_nil, upd_upd]
        refine ⟨j, u, rfl, hj, fun c H'' s'' n'' hc => ⟨_, s'' _ _ hDl, ?_, cs ++ [c], ?_, ?_, ?_⟩⟩
        · rw [List.length_map, tl.len, List.length_range]
          have z : (3 : Nat) ≤ sizeLine := by decide
          omega
        · rw [upd_same, List.map_append]
          rfl
        · intro x o e
          have nx : x ≠ D := ne_of_none e hD
          rw [upd_ne nx]
          exact s'' _ _ (sa _ _ e)
        · have z := (tl.keep s'').snoc hc
          rw [List.range_succ]
          exact Told.at_list z (s'' _ _ hDl)
      · obtain ⟨cs, hDl, sa, tl⟩ := h
        obtain ⟨c0, c1, c2, rfl, t0, t1, t2⟩ := told_three tl
        refine ⟨by decide, fun p0 h0 => ⟨by decide, fun p1 h1 => ⟨by decide, fun p2 h2 => ⟨by decide, fun q hq => ?_⟩⟩⟩⟩
        have z1 := same_new (o := .tup [V.str "missing", u]) h0
        have z2 := same_new (o := .tup [V.str "twice", u]) h1
        have z3 := same_new (o := .tup [V.str "thin", u]) h2
        have z4 := same_new (o := .lst [V.ref p0, V.ref p1, V.ref p2]) hq
        have pr : ∀ x : Str, Paired SameV [.str x, u] [.str x, u] := fun x => .cons ⟨rfl, .inl rfl⟩ (.cons (SelfV.same su8) .nil)
        refine ⟨D, q, _, _, rfl, rfl, z4 _ _ (z3 _ _ (z2 _ _ (z1 _ _ hDl))), upd_same, .cons ?_ (.cons ?_ (.cons ?_ .nil)), ?_⟩
        · exact ⟨c0, p0, _, _, rfl, rfl, ne_of_none t0 h0, z4 _ _ (z3 _ _ (z2 _ _ (z1 _ _ t0))), z4 _ _ (z3 _ _ (z2 _ _ upd_same)), pr _⟩
        · exact ⟨c1, p1, _, _, rfl, rfl, ne_of_none (z1 _ _ t1) h1, z4 _ _ (z3 _ _ (z2 _ _ (z1 _ _ t1))), z4 _ _ (z3 _ _ upd_same), pr _⟩
        · exact ⟨c2, p2, _, _, rfl, rfl, ne_of_none (z2 _ _ (z1 _ _ t2)) h2, z4 _ _ (z3 _ _ (z2 _ _ (z1 _ _ t2))), z4 _ _ upd_same, pr _⟩
        · simp only [↓asB_bl, Bool.false_eq_true, ↓reduceIte]
          exact ⟨_, _, _, _, r0, r1, rfl, z4 _ _ (z3 _ _ (z2 _ _ (z1 _ _ (sa _ _ hb8)))), ok4, by omega⟩
    · obtain ⟨o2, o3, o4, o5, m0, m1, rfl, _⟩ := h
      simp only [↓tVar_0, ↓tVar_s, ↓tC_ap, ↓tOp_ap, ↓tUn_ap, ↓asB_bl, ↓tTest_ap, ↓tB_ap, ↓tChain_ap, ↓tAnd_ap, ↓tOr_ap, ↓tNot_ap, ↓tNotV_ap, ↓tAndV_ap, ↓tOrV_ap, ↓tIf_ap, ↓tNil_ap, ↓tCons_ap, ↓tTup_ap, ↓tLst_ap, ↓tCB_ap, ↓tCall_ap, ↓tSeq_ap, ↓tNext_ap, ↓tBreak_ap, ↓tCont_ap, ↓tRet_ap, ↓tRetN_ap, ↓tDrop_ap, ↓tIfS_ap, ↓tAsg_ap, ↓gName_ap, ↓gSub_ap, ↓tPar_ap', ↓tPar3_ap', ↓two_ap, ↓three_ap, ↓rI2_ap, ↓rI20_ap, ↓rAddU_i, ↓rAddU_s, ↓rU_ap, ↓rIxU_l', ↓rIxU_t', ↓ixL_0, ↓ixL_1, ↓ixL_2, ↓ixL_3, ↓rEq_ii, ↓rNe_ii, ↓rEq_bb, ↓rNe_bb, ↓rIntU_i, ↓rIntU_b, ↓rAbsU_i, ↓rStrU_i, ↓rSetU_l', ↓setL_0, ↓setL_1, ↓setL_2, ↓reduceIte, ↓List.set_cons_zero, ↓List.set_cons_succ, List.cons_append, List.nil_append, List.append_nil, decide_eq_true_eq, Bool.not_eq_true', decide_eq_false_iff_not, List.length_cons, List.length_nil, upd_upd]
      exact k _
end
end K00

set_option Elab.async false
set_option linter.all false
set_option maxRecDepth 100000
set_option maxHeartbeats 4000000
namespace K00
open PySem PySem.Spec L2 U
open PyProof.Rows hiding St
/-! what the top has written -/
section
variable {P : Program} {w : World} {K : PySem.W.Frag} {mg : Str → Option Value} {base : Heap} {h : Heap}
/-- the class object as it was laid -/
def ClsAt (K : PySem.W.Frag) (C : Addr) : Prop := ∃ nm q N bs bm sn sub ab col dd k0 k1 k2 k3 k5, K.lookup C = some (excClassObj nm q C N bs bm true sn sub ab col dd k0 k1 k2 k3 k5 "ValueError.__new__") ∧ PySem.HandSPX.refsVE bm = true
def clB (C : Addr) (o : Obj) : Bool := match o with
  | ⟨c, _, .cls cd, sl⟩ => decide (c = .type "type") && (decide (cd.mro.head? = some (.ref C)) && (PySem.HandSPX.refsVE cd.mro.tail && (cd.hasDict && (!cd.hasDel && (decide (sl.toList.length = 6) && decide (sl.toList[4]? = some (some (Value.builtin "ValueError.__new__"))))))))
  | _ => false
def clK (K : PySem.W.Frag) (C : Addr) : Bool := match K.lookup C with
  | some o => clB C o
  | none => false
theorem clsAt_of {C : Addr} (h : clK K C = true) : ClsAt K C := by
  unfold clK at h
  cases e : K.lookup C with
  | none =>
    rw [e] at h
    cases h
  | some o =>
    rw [e] at h
    obtain ⟨c, dd, data, sl⟩ := o
    cases data with
    | cls cd =>
      have h' : (decide (c = .type "type") && (decide (cd.mro.head? = some (.ref C)) && (PySem.HandSPX.refsVE cd.mro.tail && (cd.hasDict && (!cd.hasDel && (decide (sl.toList.length = 6) && decide (sl.toList[4]? = some (some (Value.builtin "ValueError.__new__"))))))))) = true := h
      simp only [Bool.and_eq_true, decide_eq_true_eq, Bool.not_eq_true'] at h'
      obtain ⟨h1, h2, h3, h4, h5, h6, h7⟩ := h'
      obtain ⟨nm, bs, mro, ns, qn, hd, sn, sub, ab, col, del⟩ := cd
      dsimp only at h2 h3 h4 h5
      subst h1 h4 h5
      match mro, h2, h3 with
      | m :: r, h2, h3 =>
        obtain rfl : m = Value.ref C := Option.some.inj h2
        obtain ⟨l⟩ := sl
        match l, h6, h7 with
        | [s0, s1, s2, s3, s4, s5], _, h7 =>
          obtain rfl : s4 = some (Value.builtin "ValueError.__new__") := Option.some.inj h7
          exact ⟨nm, qn, ns, bs, r, sn, sub, ab, col, dd, s0, s1, s2, s3, s5, e, h3⟩
    | _ => cases h
def ckB (K : PySem.W.Frag) (C : Addr) : Bool := decide (PySem.W.findIn K (.ref C) "__setattr__" = some (some (.builtin "object.__setattr__"))) && (decide (PySem.W.subIn K (.ref C) (.type "BaseException") = some true) && (decide (PySem.W.typeIn K (.ref C) = some (.type "type")) && (PySem.W.keepIn K (.ref C) &&
  (decide (PySem.W.findIn K (.ref C) "__getattribute__" = some (some (.builtin "BaseException.__getattribute__"))) && (decide (PySem.W.findIn K (.ref C) "__getattr__" = some none) && (PySem.W.hasDictIn K C && (decide (PySem.W.findIn K (.ref C) "__class__" = some (some (.builtin "object.__class__"))) &&
  (decide (PySem.W.specialIn K (.builtin "object.__class__") "__get__" = some (some (.builtin "getset_descriptor.__get__"))) && (decide (PySem.W.takesIn K (.builtin "object.__class__") = some true) && decide (PySem.W.mroIn K C (.type "object") = some true))))))))))
theorem exk_of {C : Addr} (y : clK K C = true) (h : ckB K C = true) : ExK K C := by
  have x := clsAt_of y
  unfold ckB at h
  simp only [Bool.and_eq_true, decide_eq_true_eq] at h
  obtain ⟨h1, h2, h3, h4, h5, h6, h7, h8, h9, h10, h11⟩ := h
  exact ⟨⟨x, h1, h2, h3, h4⟩, h5, h6, h7, h8, h9, h10, h11⟩
structure IniF (K : PySem.W.Frag) (C : Addr) (q : Str) (st : Stmt) : Prop where
  ex : ∃ (fI : Addr) (oc : Value) (od an : Option Addr) (kV dc pm cd ct : Value) (sl : Array (Option Value)), PySem.W.findIn K (.ref C) "__init__" = some (some (.ref fI)) ∧ PySem.W.typeIn K (.ref fI) = some (.type "function") ∧
    K.lookup fI = some ⟨oc, od, .func (PySem.W.fnOf "__init__" q (defArgs st) (defBody st) (defScope st) .none kV dc pm an cd ct), sl⟩ ∧ PySem.W.codeIn K cd q = true ∧ PySem.W.keepIn K (.ref fI) = true
structure TopF (K : PySem.W.Frag) (x : Str) (st : Stmt) : Prop where
  ex : ∃ (f : Addr) (oc : Value) (od an : Option Addr) (kV dc pm cd ct : Value) (sl : Array (Option Value)), PySem.W.nsIn K mainGlobals x = some (some (.ref f)) ∧
    K.lookup f = some ⟨oc, od, .func (PySem.W.fnOf x x (defArgs st) (defBody st) (defScope st) .none kV dc pm an cd ct), sl⟩ ∧ PySem.W.codeIn K cd x = true ∧ PySem.W.keepIn K (.ref f) = true
theorem iniF_mk {C fI : Addr} {q : Str} {st : Stmt} {oc : Value} {od an : Option Addr} {kV dc pm cd ct : Value} {sl : Array (Option Value)} (a1 : PySem.W.findIn K (.ref C) "__init__" = some (some (.ref fI))) (t1 : PySem.W.typeIn K (.ref fI) = some (.type "function"))
    (l1 : K.lookup fI = some ⟨oc, od, .func (PySem.W.fnOf "__init__" q (defArgs st) (defBody st) (defScope st) .none kV dc pm an cd ct), sl⟩) (c1 : PySem.W.codeIn K cd q = true) (k1 : PySem.W.keepIn K (.ref fI) = true) : IniF K C q st := ⟨⟨fI, oc, od, an, kV, dc, pm, cd, ct, sl, a1, t1, l1, c1, k1⟩⟩
theorem topF_mk {f : Addr} {x : Str} {st : Stmt} {oc : Value} {od an : Option Addr} {kV dc pm cd ct : Value} {sl : Array (Option Value)} (a1 : PySem.W.nsIn K mainGlobals x = some (some (.ref f)))
    (l1 : K.lookup f = some ⟨oc, od, .func (PySem.W.fnOf x x (defArgs st) (defBody st) (defScope st) .none kV dc pm an cd ct), sl⟩) (c1 : PySem.W.codeIn K cd x = true) (k1 : PySem.W.keepIn K (.ref f) = true) : TopF K x st := ⟨⟨f, oc, od, an, kV, dc, pm, cd, ct, sl, a1, l1, c1, k1⟩⟩
theorem er1_of {x y f q : Str} {C : Addr} {st : Stmt} {p1 p2 p3 p4 : Pos} (k : ExK K C) (nf : PySem.W.findIn K (.ref C) f = some none) (m : mg x = some (.ref C)) (I : IniF K C q st) (S : FnScope ["self", y] ["self", y] (defScope st))
    (hb : defBody st = [.Assign [.Attribute (.Name "self" p1) f p2] (.Name y p3) p4]) (hd1 : (y == ("__debug__" : Str)) = false) (hd2 : (y == ("__classdict__" : Str)) = false)
    (b1 : ∀ (kV doc pm : Value) (an : Option Addr) (cdv ct : Value) (us : List Value), us.length = (["self", y] : List Str).length → bindArgs (PySem.W.fnOf "__init__" q (defArgs st) (defBody st) (defScope st) .none kV doc pm an cdv ct) ⟨us, []⟩ = pure ((["self", y] : List Str).zip us))
    (b2 : ∀ (kV doc pm : Value) (an : Option Addr) (cdv ct a : Value) (ws : List Value), ws.length = ([y] : List Str).length → bindArgs (PySem.W.fnOf "__init__" q (defArgs st) (defBody st) (defScope st) .none kV doc pm an cdv ct) ⟨[a], ([y] : List Str).zip ws⟩ = pure ((["self", y] : List Str).zip (a :: ws))) :
    Er1 P w K mg base x y f C := by
  obtain ⟨fI, oc, od, an, kV, dc, pm, cd, ct, sl, a1, t1, l1, c1, k1⟩ := I.ex
  have F := fun_mk (st := st) l1 c1 k1
  exact ⟨k, nf, m, fI, _, a1, t1, ok_init1 F S hb k.oex nf hd1 hd2, F.binds b1, ⟨b2 _ _ _ _ _ _, fun r => r⟩⟩
theorem vals_rev2 {zs : List V} {ws : List Value} (h : Vals zs ws) : Vals zs.reverse ws.reverse := by
  induction h with
  | nil => exact .nil
  | cons a _ ih =>
    rw [List.reverse_cons, List.reverse_cons]
    exact (show Vals _ _ from ih).append (.cons a .nil)
theorem er2_of {x y z f g q : Str} {C : Addr} {st : Stmt} {p1 p2 p3 p4 q1 q2 q3 q4 : Pos} (k : ExK K C) (nf : PySem.W.findIn K (.ref C) f = some none) (ng : PySem.W.findIn K (.ref C) g = some none) (m : mg x = some (.ref C)) (I : IniF K C q st) (S : FnScope ["self", y, z] ["self", y, z] (defScope st))
    (hb : defBody st = [.Assign [.Attribute (.Name "self" p1) f p2] (.Name y p3) p4, .Assign [.Attribute (.Name "self" q1) g q2] (.Name z q3) q4]) (hd1 : (y == ("__debug__" : Str)) = false) (hd2 : (y == ("__classdict__" : Str)) = false) (he1 : (z == ("__debug__" : Str)) = false) (he2 : (z == ("__classdict__" : Str)) = false)
    (b1 : ∀ (kV doc pm : Value) (an : Option Addr) (cdv ct : Value) (us : List Value), us.length = (["self", y, z] : List Str).length → bindArgs (PySem.W.fnOf "__init__" q (defArgs st) (defBody st) (defScope st) .none kV doc pm an cdv ct) ⟨us, []⟩ = pure ((["self", y, z] : List Str).zip us))
    (b2 : ∀ (kV doc pm : Value) (an : Option Addr) (cdv ct a : Value) (ws : List Value), ws.length = ([y, z] : List Str).length → bindArgs (PySem.W.fnOf "__init__" q (defArgs st) (defBody st) (defScope st) .none kV doc pm an cdv ct) ⟨[a], ([y, z] : List Str).zip ws⟩ = pure ((["self", y, z] : List Str).zip (a :: ws)))
    (b3 : ∀ (kV doc pm : Value) (an : Option Addr) (cdv ct a : Value) (ws : List Value), ws.length = ([z, y] : List Str).length → bindArgs (PySem.W.fnOf "__init__" q (defArgs st) (defBody st) (defScope st) .none kV doc pm an cdv ct) ⟨[a], ([z, y] : List Str).zip ws⟩ = pure ((["self", y, z] : List Str).zip (a :: ws.reverse))) :
    Er2 P w K mg base x y z f g C := by
  obtain ⟨fI, oc, od, an, kV, dc, pm, cd, ct, sl, a1, t1, l1, c1, k1⟩ := I.ex
  have F := fun_mk (st := st) l1 c1 k1
  exact ⟨k, nf, ng, m, fI, _, a1, t1, ok_init2 F S hb k.oex nf ng hd1 hd2 he1 he2, F.binds b1, ⟨b2 _ _ _ _ _ _, fun r => r⟩, ⟨b3 _ _ _ _ _ _, vals_rev2⟩⟩
theorem er_BadNumber {C : Addr} (k : ExK K C) (nf : PySem.W.findIn K (.ref C) "part" = some none) (m : mg "BadNumber" = some (.ref C)) (I : IniF K C "BadNumber.__init__" (inClass (top 2) 0)) : Er1 P w K mg base "BadNumber" "part" "part" C :=
  er1_of k nf m I ⟨rfl, rfl, rfl, by decide +kernel, rfl, by decide +kernel, by decide +kernel⟩ rfl (by decide) (by decide) (fun _ _ _ _ _ _ us hl => match us, hl with | [_, _], _ => rfl) (fun _ _ _ _ _ _ _ ws hl => match ws, hl with | [_], _ => rfl)
theorem er_BadRatio {C : Addr} (k : ExK K C) (nf : PySem.W.findIn K (.ref C) "part" = some none) (m : mg "BadRatio" = some (.ref C)) (I : IniF K C "BadRatio.__init__" (inClass (top 3) 0)) : Er1 P w K mg base "BadRatio" "part" "part" C :=
  er1_of k nf m I ⟨rfl, rfl, rfl, by decide +kernel, rfl, by decide +kernel, by decide +kernel⟩ rfl (by decide) (by decide) (fun _ _ _ _ _ _ us hl => match us, hl with | [_, _], _ => rfl) (fun _ _ _ _ _ _ _ ws hl => match ws, hl with | [_], _ => rfl)
theorem er_BadLot {C : Addr} (k : ExK K C) (nf : PySem.W.findIn K (.ref C) "part" = some none) (m : mg "BadLot" = some (.ref C)) (I : IniF K C "BadLot.__init__" (inClass (top 4) 0)) : Er1 P w K mg base "BadLot" "part" "part" C :=
  er1_of k nf m I ⟨rfl, rfl, rfl, by decide +kernel, rfl, by decide +kernel, by decide +kernel⟩ rfl (by decide) (by decide) (fun _ _ _ _ _ _ us hl => match us, hl with | [_, _], _ => rfl) (fun _ _ _ _ _ _ _ ws hl => match ws, hl with | [_], _ => rfl)
theorem er_BadBook {C : Addr} (k : ExK K C) (nf : PySem.W.findIn K (.ref C) "part" = some none) (m : mg "BadBook" = some (.ref C)) (I : IniF K C "BadBook.__init__" (inClass (top 5) 0)) : Er1 P w K mg base "BadBook" "part" "part" C :=
  er1_of k nf m I ⟨rfl, rfl, rfl, by decide +kernel, rfl, by decide +kernel, by decide +kernel⟩ rfl (by decide) (by decide) (fun _ _ _ _ _ _ us hl => match us, hl with | [_, _], _ => rfl) (fun _ _ _ _ _ _ _ ws hl => match ws, hl with | [_], _ => rfl)
theorem er_BadWeb {C : Addr} (k : ExK K C) (nf : PySem.W.findIn K (.ref C) "part" = some none) (m : mg "BadWeb" = some (.ref C)) (I : IniF K C "BadWeb.__init__" (inClass (top 6) 0)) : Er1 P w K mg base "BadWeb" "part" "part" C :=
  er1_of k nf m I ⟨rfl, rfl, rfl, by decide +kernel, rfl, by decide +kernel, by decide +kernel⟩ rfl (by decide) (by decide) (fun _ _ _ _ _ _ us hl => match us, hl with | [_, _], _ => rfl) (fun _ _ _ _ _ _ _ ws hl => match ws, hl with | [_], _ => rfl)
theorem er_BadPolynomial {C : Addr} (k : ExK K C) (nf : PySem.W.findIn K (.ref C) "part" = some none) (m : mg "BadPolynomial" = some (.ref C)) (I : IniF K C "BadPolynomial.__init__" (inClass (top 7) 0)) : Er1 P w K mg base "BadPolynomial" "part" "part" C :=
  er1_of k nf m I ⟨rfl, rfl, rfl, by decide +kernel, rfl, by decide +kernel, by decide +kernel⟩ rfl (by decide) (by decide) (fun _ _ _ _ _ _ us hl => match us, hl with | [_, _], _ => rfl) (fun _ _ _ _ _ _ _ ws hl => match ws, hl with | [_], _ => rfl)
theorem er_BadQuotient {C : Addr} (k : ExK K C) (nf : PySem.W.findIn K (.ref C) "part" = some none) (m : mg "BadQuotient" = some (.ref C)) (I : IniF K C "BadQuotient.__init__" (inClass (top 8) 0)) : Er1 P w K mg base "BadQuotient" "part" "part" C :=
  er1_of k nf m I ⟨rfl, rfl, rfl, by decide +kernel, rfl, by decide +kernel, by decide +kernel⟩ rfl (by decide) (by decide) (fun _ _ _ _ _ _ us hl => match us, hl with | [_, _], _ => rfl) (fun _ _ _ _ _ _ _ ws hl => match ws, hl with | [_], _ => rfl)
theorem er_BadQuestion {C : Addr} (k : ExK K C) (nf : PySem.W.findIn K (.ref C) "part" = some none) (m : mg "BadQuestion" = some (.ref C)) (I : IniF K C "BadQuestion.__init__" (inClass (top 9) 0)) : Er1 P w K mg base "BadQuestion" "part" "part" C :=
  er1_of k nf m I ⟨rfl, rfl, rfl, by decide +kernel, rfl, by decide +kernel, by decide +kernel⟩ rfl (by decide) (by decide) (fun _ _ _ _ _ _ us hl => match us, hl with | [_, _], _ => rfl) (fun _ _ _ _ _ _ _ ws hl => match ws, hl with | [_], _ => rfl)
theorem er_BadTown {C : Addr} (k : ExK K C) (nf : PySem.W.findIn K (.ref C) "part" = some none) (m : mg "BadTown" = some (.ref C)) (I : IniF K C "BadTown.__init__" (inClass (top 10) 0)) : Er1 P w K mg base "BadTown" "part" "part" C :=
  er1_of k nf m I ⟨rfl, rfl, rfl, by decide +kernel, rfl, by decide +kernel, by decide +kernel⟩ rfl (by decide) (by decide) (fun _ _ _ _ _ _ us hl => match us, hl with | [_, _], _ => rfl) (fun _ _ _ _ _ _ _ ws hl => match ws, hl with | [_], _ => rfl)
theorem er_BadPaper {C : Addr} (k : ExK K C) (nf : PySem.W.findIn K (.ref C) "part" = some none) (m : mg "BadPaper" = some (.ref C)) (I : IniF K C "BadPaper.__init__" (inClass (top 11) 0)) : Er1 P w K mg base "BadPaper" "part" "part" C :=
  er1_of k nf m I ⟨rfl, rfl, rfl, by decide +kernel, rfl, by decide +kernel, by decide +kernel⟩ rfl (by decide) (by decide) (fun _ _ _ _ _ _ us hl => match us, hl with | [_, _], _ => rfl) (fun _ _ _ _ _ _ _ ws hl => match ws, hl with | [_], _ => rfl)
theorem er_BadDesk {C : Addr} (k : ExK K C) (nf : PySem.W.findIn K (.ref C) "part" = some none) (m : mg "BadDesk" = some (.ref C)) (I : IniF K C "BadDesk.__init__" (inClass (top 12) 0)) : Er1 P w K mg base "BadDesk" "part" "part" C :=
  er1_of k nf m I ⟨rfl, rfl, rfl, by decide +kernel, rfl, by decide +kernel, by decide +kernel⟩ rfl (by decide) (by decide) (fun _ _ _ _ _ _ us hl => match us, hl with | [_, _], _ => rfl) (fun _ _ _ _ _ _ _ ws hl => match ws, hl with | [_], _ => rfl)
theorem er_Misfit {C : Addr} (k : ExK K C) (nf : PySem.W.findIn K (.ref C) "part" = some none) (m : mg "Misfit" = some (.ref C)) (I : IniF K C "Misfit.__init__" (inClass (top 13) 0)) : Er1 P w K mg base "Misfit" "part" "part" C :=
  er1_of k nf m I ⟨rfl, rfl, rfl, by decide +kernel, rfl, by decide +kernel, by decide +kernel⟩ rfl (by decide) (by decide) (fun _ _ _ _ _ _ us hl => match us, hl with | [_, _], _ => rfl) (fun _ _ _ _ _ _ _ ws hl => match ws, hl with | [_], _ => rfl)
theorem er_NoPoint {C : Addr} (k : ExK K C) (nf : PySem.W.findIn K (.ref C) "value" = some none) (m : mg "NoPoint" = some (.ref C)) (I : IniF K C "NoPoint.__init__" (inClass (top 15) 0)) : Er1 P w K mg base "NoPoint" "value" "value" C :=
  er1_of k nf m I ⟨rfl, rfl, rfl, by decide +kernel, rfl, by decide +kernel, by decide +kernel⟩ rfl (by decide) (by decide) (fun _ _ _ _ _ _ us hl => match us, hl with | [_, _], _ => rfl) (fun _ _ _ _ _ _ _ ws hl => match ws, hl with | [_], _ => rfl)
theorem er_NoTie {C : Addr} (k : ExK K C) (nf : PySem.W.findIn K (.ref C) "value" = some none) (m : mg "NoTie" = some (.ref C)) (I : IniF K C "NoTie.__init__" (inClass (top 16) 0)) : Er1 P w K mg base "NoTie" "value" "value" C :=
  er1_of k nf m I ⟨rfl, rfl, rfl, by decide +kernel, rfl, by decide +kernel, by decide +kernel⟩ rfl (by decide) (by decide) (fun _ _ _ _ _ _ us hl => match us, hl with | [_, _], _ => rfl) (fun _ _ _ _ _ _ _ ws hl => match ws, hl with | [_], _ => rfl)
theorem er_NoSort {C : Addr} (k : ExK K C) (nf : PySem.W.findIn K (.ref C) "value" = some none) (m : mg "NoSort" = some (.ref C)) (I : IniF K C "NoSort.__init__" (inClass (top 17) 0)) : Er1 P w K mg base "NoSort" "value" "value" C :=
  er1_of k nf m I ⟨rfl, rfl, rfl, by decide +kernel, rfl, by decide +kernel, by decide +kernel⟩ rfl (by decide) (by decide) (fun _ _ _ _ _ _ us hl => match us, hl with | [_, _], _ => rfl) (fun _ _ _ _ _ _ _ ws hl => match ws, hl with | [_], _ => rfl)
theorem er_NoKind {C : Addr} (k : ExK K C) (nf : PySem.W.findIn K (.ref C) "value" = some none) (m : mg "NoKind" = some (.ref C)) (I : IniF K C "NoKind.__init__" (inClass (top 18) 0)) : Er1 P w K mg base "NoKind" "value" "value" C :=
  er1_of k nf m I ⟨rfl, rfl, rfl, by decide +kernel, rfl, by decide +kernel, by decide +kernel⟩ rfl (by decide) (by decide) (fun _ _ _ _ _ _ us hl => match us, hl with | [_, _], _ => rfl) (fun _ _ _ _ _ _ _ ws hl => match ws, hl with | [_], _ => rfl)
theorem er_NoName {C : Addr} (k : ExK K C) (nf : PySem.W.findIn K (.ref C) "value" = some none) (m : mg "NoName" = some (.ref C)) (I : IniF K C "NoName.__init__" (inClass (top 19) 0)) : Er1 P w K mg base "NoName" "value" "value" C :=
  er1_of k nf m I ⟨rfl, rfl, rfl, by decide +kernel, rfl, by decide +kernel, by decide +kernel⟩ rfl (by decide) (by decide) (fun _ _ _ _ _ _ us hl => match us, hl with | [_, _], _ => rfl) (fun _ _ _ _ _ _ _ ws hl => match ws, hl with | [_], _ => rfl)
theorem er_Twice {C : Addr} (k : ExK K C) (nf : PySem.W.findIn K (.ref C) "value" = some none) (m : mg "Twice" = some (.ref C)) (I : IniF K C "Twice.__init__" (inClass (top 20) 0)) : Er1 P w K mg base "Twice" "value" "value" C :=
  er1_of k nf m I ⟨rfl, rfl, rfl, by decide +kernel, rfl, by decide +kernel, by decide +kernel⟩ rfl (by decide) (by decide) (fun _ _ _ _ _ _ us hl => match us, hl with | [_, _], _ => rfl) (fun _ _ _ _ _ _ _ ws hl => match ws, hl with | [_], _ => rfl)
theorem er_Impossible {C : Addr} (k : ExK K C) (nf : PySem.W.findIn K (.ref C) "paper" = some none) (m : mg "Impossible" = some (.ref C)) (I : IniF K C "Impossible.__init__" (inClass (top 21) 0)) : Er1 P w K mg base "Impossible" "paper" "paper" C :=
  er1_of k nf m I ⟨rfl, rfl, rfl, by decide +kernel, rfl, by decide +kernel, by decide +kernel⟩ rfl (by decide) (by decide) (fun _ _ _ _ _ _ us hl => match us, hl with | [_, _], _ => rfl) (fun _ _ _ _ _ _ _ ws hl => match ws, hl with | [_], _ => rfl)
theorem er_TooMany {C : Addr} (k : ExK K C) (nf : PySem.W.findIn K (.ref C) "what" = some none) (ng : PySem.W.findIn K (.ref C) "most" = some none) (m : mg "TooMany" = some (.ref C)) (I : IniF K C "TooMany.__init__" (inClass (top 22) 0)) : Er2 P w K mg base "TooMany" "what" "most" "what" "most" C :=
  er2_of k nf ng m I ⟨rfl, rfl, rfl, by decide +kernel, rfl, by decide +kernel, by decide +kernel⟩ rfl (by decide) (by decide) (by decide) (by decide) (fun _ _ _ _ _ _ us hl => match us, hl with | [_, _, _], _ => rfl) (fun _ _ _ _ _ _ _ ws hl => match ws, hl with | [_, _], _ => rfl) (fun _ _ _ _ _ _ _ ws hl => match ws, hl with | [_, _], _ => rfl)
theorem er_BadText {C : Addr} (k : ExK K C) (nf : PySem.W.findIn K (.ref C) "line" = some none) (ng : PySem.W.findIn K (.ref C) "item" = some none) (m : mg "BadText" = some (.ref C)) (I : IniF K C "BadText.__init__" (inClass (top 24) 0)) : Er2 P w K mg base "BadText" "line" "item" "line" "item" C :=
  er2_of k nf ng m I ⟨rfl, rfl, rfl, by decide +kernel, rfl, by decide +kernel, by decide +kernel⟩ rfl (by decide) (by decide) (by decide) (by decide) (fun _ _ _ _ _ _ us hl => match us, hl with | [_, _, _], _ => rfl) (fun _ _ _ _ _ _ _ ws hl => match ws, hl with | [_, _], _ => rfl) (fun _ _ _ _ _ _ _ ws hl => match ws, hl with | [_, _], _ => rfl)
theorem er_BadLine {C : Addr} (k : ExK K C) (nf : PySem.W.findIn K (.ref C) "line" = some none) (ng : PySem.W.findIn K (.ref C) "error" = some none) (m : mg "BadLine" = some (.ref C)) (I : IniF K C "BadLine.__init__" (inClass (top 25) 0)) : Er2 P w K mg base "BadLine" "line" "error" "line" "error" C :=
  er2_of k nf ng m I ⟨rfl, rfl, rfl, by decide +kernel, rfl, by decide +kernel, by decide +kernel⟩ rfl (by decide) (by decide) (by decide) (by decide) (fun _ _ _ _ _ _ us hl => match us, hl with | [_, _, _], _ => rfl) (fun _ _ _ _ _ _ _ ws hl => match ws, hl with | [_, _], _ => rfl) (fun _ _ _ _ _ _ _ ws hl => match ws, hl with | [_, _], _ => rfl)
theorem er_Missing {C : Addr} (k : ExK K C) (nf : PySem.W.findIn K (.ref C) "value" = some none) (m : mg "Missing" = some (.ref C)) (I : IniF K C "Missing.__init__" (inClass (top 14) 0)) : Er1 P w K mg base "Missing" "value" "value" C :=
  er1_of k nf m I ⟨rfl, rfl, rfl, by decide +kernel, rfl, by decide +kernel, by decide +kernel⟩ rfl (by decide) (by decide) (fun _ _ _ _ _ _ us hl => match us, hl with | [_, _], _ => rfl) (fun _ _ _ _ _ _ _ ws hl => match ws, hl with | [_], _ => rfl)
end
end K00

set_option Elab.async false
set_option linter.all false
set_option maxRecDepth 100000
set_option maxHeartbeats 4000000
namespace K00
open PySem PySem.Spec L2 U
open PyProof.Rows hiding St
/-! the end -/
section
variable {P : Program} {w : World} {K : PySem.W.Frag} {mg : Str → Option Value} {base : Heap} {h : Heap}
def nth (L : List Addr) (n : Nat) : Addr := L.getD n 0
def bltN : List Value := [.type "LookupError", .type "TypeError", .type "ArithmeticError", .type "AttributeError", .type "RuntimeError"]
def kitB1 (K : PySem.W.Frag) (L : List Addr) (cM cT : Addr) (n : Nat) : Bool :=
  ((List.range 23).all fun i => decide (PySem.W.kitOne K (.ref (nth L n)) (.ref (nth L i)) = some (decide (i = n)))) && (decide (PySem.W.kitOne K (.ref (nth L n)) (.ref cM) = some (decide (12 ≤ n ∧ n < 17))) && (decide (PySem.W.kitOne K (.ref (nth L n)) (.ref cT) = some true) &&
    (decide (PySem.W.kitOne K (.ref (nth L n)) (.type "ValueError") = some true) && decide (PySem.W.kitAny K (.ref (nth L n)) bltN = some false))))
def kitB (K : PySem.W.Frag) (L : List Addr) (cM cT : Addr) : Bool := (List.range 23).all (kitB1 K L cM cT)
theorem kitB_at {L : List Addr} {cM cT : Addr} (k : kitB K L cM cT = true) {n : Nat} (hn : n < 23) : (∀ i, i < 23 → PySem.W.kitOne K (.ref (nth L n)) (.ref (nth L i)) = some (decide (i = n))) ∧ PySem.W.kitOne K (.ref (nth L n)) (.ref cM) = some (decide (12 ≤ n ∧ n < 17)) ∧
    PySem.W.kitOne K (.ref (nth L n)) (.ref cT) = some true ∧ PySem.W.kitOne K (.ref (nth L n)) (.type "ValueError") = some true ∧ PySem.W.kitAny K (.ref (nth L n)) bltN = some false := by
  unfold kitB at k
  have q := List.all_eq_true.mp k n (List.mem_range.mpr hn)
  unfold kitB1 at q
  simp only [Bool.and_eq_true, decide_eq_true_eq] at q
  obtain ⟨q1, q2, q3, q4, q5⟩ := q
  exact ⟨fun i hi => of_decide_eq_true (List.all_eq_true.mp q1 i (List.mem_range.mpr hi)), q2, q3, q4, q5⟩
def msB (K : PySem.W.Frag) (L : List Addr) (cM cT : Addr) : Bool :=
  decide (PySem.W.kitAny K (.ref cM) [.ref (nth L 12), .ref (nth L 13), .ref (nth L 14), .ref (nth L 15), .ref (nth L 16), .ref (nth L 17)] = some false) && (decide (PySem.W.kitOne K (.ref cM) (.ref cT) = some true) &&
  (decide (PySem.W.findIn K (.ref (nth L 12)) "__eq__" = some (some (.builtin "object.__eq__"))) && (decide (PySem.W.findIn K (.ref (nth L 12)) "__ne__" = some (some (.builtin "object.__ne__"))) && (decide (PySem.W.mroIn K (nth L 12) (.type "object") = some true) &&
  (decide (PySem.W.exmOne K (.ref (nth L 13)) (.ref cM) = some true) && (decide (PySem.W.exmOne K (.ref (nth L 17)) (.ref cM) = some false) && (decide (PySem.W.exmOne K (.ref (nth L 17)) (.ref (nth L 17)) = some true) &&
  (decide (PySem.W.exmOne K (.ref (nth L 19)) (.ref cM) = some false) && (decide (PySem.W.exmOne K (.ref (nth L 19)) (.ref (nth L 17)) = some false) && decide (PySem.W.exmOne K (.ref (nth L 19)) (.ref cT) = some true))))))))))
theorem ok_of {CX : CXT} {x : Str} {st : Stmt} {ps : List Str} {k : Nat} {sp : Sp} (X : K.In h) (G : h.Ns mainGlobals mg) (t : TopF K x st)
    (b : ∀ (kV doc pm : Value) (an : Option Addr) (cdv ct : Value) (us : List Value), us.length = ps.length → bindArgs (PySem.W.fnOf x x (defArgs st) (defBody st) (defScope st) .none kV doc pm an cdv ct) ⟨us, []⟩ = pure (ps.zip us))
    (F : ∀ {f : Addr} {fd : FuncData}, Fun K x x st f fd → FnOk P w K mg base CX k f fd ps sp) : Ok P w K mg base CX x k ps sp := by
  obtain ⟨f, oc, od, an, kV, dc, pm, cd, ct, sl, a1, l1, c1, k1⟩ := t.ex
  have F1 := fun_mk (st := st) l1 c1 k1
  exact ⟨f, _, PySem.W.mg_of X G a1, k1, F1.binds b, F F1⟩
theorem all_mk {fa c0 c1 c2 c3 c4 c5 c6 c7 c8 c9 c10 c11 c12 c13 c14 c15 c16 c17 c18 c19 c20 c21 c22 cM cT : Addr} (X : K.In h) (G : h.Ns mainGlobals mg) (hfa : mg "law" = some (.ref fa))
    (g0 : PySem.W.nsIn K mainGlobals "BadNumber" = some (some (.ref c0)))
    (g1 : PySem.W.nsIn K mainGlobals "BadRatio" = some (some (.ref c1)))
    (g2 : PySem.W.nsIn K mainGlobals "BadLot" = some (some (.ref c2)))
    (g3 : PySem.W.nsIn K mainGlobals "BadBook" = some (some (.ref c3)))
    (g4 : PySem.W.nsIn K mainGlobals "BadWeb" = some (some (.ref c4)))
    (g5 : PySem.W.nsIn K mainGlobals "BadPolynomial" = some (some (.ref c5)))
    (g6 : PySem.W.nsIn K mainGlobals "BadQuotient" = some (some (.ref c6)))
    (g7 : PySem.W.nsIn K mainGlobals "BadQuestion" = some (some (.ref c7)))
    (g8 : PySem.W.nsIn K mainGlobals "BadTown" = some (some (.ref c8)))
    (g9 : PySem.W.nsIn K mainGlobals "BadPaper" = some (some (.ref c9)))
    (g10 : PySem.W.nsIn K mainGlobals "BadDesk" = some (some (.ref c10)))
    (g11 : PySem.W.nsIn K mainGlobals "Misfit" = some (some (.ref c11)))
    (g12 : PySem.W.nsIn K mainGlobals "NoPoint" = some (some (.ref c12)))
    (g13 : PySem.W.nsIn K mainGlobals "NoTie" = some (some (.ref c13)))
    (g14 : PySem.W.nsIn K mainGlobals "NoSort" = some (some (.ref c14)))
    (g15 : PySem.W.nsIn K mainGlobals "NoKind" = some (some (.ref c15)))
    (g16 : PySem.W.nsIn K mainGlobals "NoName" = some (some (.ref c16)))
    (g17 : PySem.W.nsIn K mainGlobals "Twice" = some (some (.ref c17)))
    (g18 : PySem.W.nsIn K mainGlobals "Impossible" = some (some (.ref c18)))
    (g19 : PySem.W.nsIn K mainGlobals "TooMany" = some (some (.ref c19)))
    (g20 : PySem.W.nsIn K mainGlobals "Nothing" = some (some (.ref c20)))
    (g21 : PySem.W.nsIn K mainGlobals "BadText" = some (some (.ref c21)))
    (g22 : PySem.W.nsIn K mainGlobals "BadLine" = some (some (.ref c22)))
    (gM : PySem.W.nsIn K mainGlobals "Missing" = some (some (.ref cM)))
    (gT : PySem.W.nsIn K mainGlobals "ThinError" = some (some (.ref cT)))
    (x0 : clK K c0 = true) (e0 : ckB K c0 = true)
    (x1 : clK K c1 = true) (e1 : ckB K c1 = true)
    (x2 : clK K c2 = true) (e2 : ckB K c2 = true)
    (x3 : clK K c3 = true) (e3 : ckB K c3 = true)
    (x4 : clK K c4 = true) (e4 : ckB K c4 = true)
    (x5 : clK K c5 = true) (e5 : ckB K c5 = true)
    (x6 : clK K c6 = true) (e6 : ckB K c6 = true)
    (x7 : clK K c7 = true) (e7 : ckB K c7 = true)
    (x8 : clK K c8 = true) (e8 : ckB K c8 = true)
    (x9 : clK K c9 = true) (e9 : ckB K c9 = true)
    (x10 : clK K c10 = true) (e10 : ckB K c10 = true)
    (x11 : clK K c11 = true) (e11 : ckB K c11 = true)
    (x12 : clK K c12 = true) (e12 : ckB K c12 = true)
    (x13 : clK K c13 = true) (e13 : ckB K c13 = true)
    (x14 : clK K c14 = true) (e14 : ckB K c14 = true)
    (x15 : clK K c15 = true) (e15 : ckB K c15 = true)
    (x16 : clK K c16 = true) (e16 : ckB K c16 = true)
    (x17 : clK K c17 = true) (e17 : ckB K c17 = true)
    (x18 : clK K c18 = true) (e18 : ckB K c18 = true)
    (x19 : clK K c19 = true) (e19 : ckB K c19 = true)
    (x20 : clK K c20 = true) (e20 : ckB K c20 = true)
    (x21 : clK K c21 = true) (e21 : ckB K c21 = true)
    (x22 : clK K c22 = true) (e22 : ckB K c22 = true)
    (xM : clK K cM = true) (eM : ckB K cM = true)
    (n0 : PySem.W.findIn K (.ref c0) "part" = some none)
    (i0 : IniF K c0 "BadNumber.__init__" (inClass (top 2) 0))
    (n1 : PySem.W.findIn K (.ref c1) "part" = some none)
    (i1 : IniF K c1 "BadRatio.__init__" (inClass (top 3) 0))
    (n2 : PySem.W.findIn K (.ref c2) "part" = some none)
    (i2 : IniF K c2 "BadLot.__init__" (inClass (top 4) 0))
    (n3 : PySem.W.findIn K (.ref c3) "part" = some none)
    (i3 : IniF K c3 "BadBook.__init__" (inClass (top 5) 0))
    (n4 : PySem.W.findIn K (.ref c4) "part" = some none)
    (i4 : IniF K c4 "BadWeb.__init__" (inClass (top 6) 0))
    (n5 : PySem.W.findIn K (.ref c5) "part" = some none)
    (i5 : IniF K c5 "BadPolynomial.__init__" (inClass (top 7) 0))
    (n6 : PySem.W.findIn K (.ref c6) "part" = some none)
    (i6 : IniF K c6 "BadQuotient.__init__" (inClass (top 8) 0))
    (n7 : PySem.W.findIn K (.ref c7) "part" = some none)
    (i7 : IniF K c7 "BadQuestion.__init__" (inClass (top 9) 0))
    (n8 : PySem.W.findIn K (.ref c8) "part" = some none)
    (i8 : IniF K c8 "BadTown.__init__" (inClass (top 10) 0))
    (n9 : PySem.W.findIn K (.ref c9) "part" = some none)
    (i9 : IniF K c9 "BadPaper.__init__" (inClass (top 11) 0))
    (n10 : PySem.W.findIn K (.ref c10) "part" = some none)
    (i10 : IniF K c10 "BadDesk.__init__" (inClass (top 12) 0))
    (n11 : PySem.W.findIn K (.ref c11) "part" = some none)
    (i11 : IniF K c11 "Misfit.__init__" (inClass (top 13) 0))
    (n12 : PySem.W.findIn K (.ref c12) "value" = some none)
    (i12 : IniF K c12 "NoPoint.__init__" (inClass (top 15) 0))
    (n13 : PySem.W.findIn K (.ref c13) "value" = some none)
    (i13 : IniF K c13 "NoTie.__init__" (inClass (top 16) 0))
    (n14 : PySem.W.findIn K (.ref c14) "value" = some none)
    (i14 : IniF K c14 "NoSort.__init__" (inClass (top 17) 0))
    (n15 : PySem.W.findIn K (.ref c15) "value" = some none)
    (i15 : IniF K c15 "NoKind.__init__" (inClass (top 18) 0))
    (n16 : PySem.W.findIn K (.ref c16) "value" = some none)
    (i16 : IniF K c16 "NoName.__init__" (inClass (top 19) 0))
    (n17 : PySem.W.findIn K (.ref c17) "value" = some none)
    (i17 : IniF K c17 "Twice.__init__" (inClass (top 20) 0))
    (n18 : PySem.W.findIn K (.ref c18) "paper" = some none)
    (i18 : IniF K c18 "Impossible.__init__" (inClass (top 21) 0))
    (n19 : PySem.W.findIn K (.ref c19) "what" = some none)
    (m19 : PySem.W.findIn K (.ref c19) "most" = some none)
    (i19 : IniF K c19 "TooMany.__init__" (inClass (top 22) 0))
    (n21 : PySem.W.findIn K (.ref c21) "line" = some none)
    (m21 : PySem.W.findIn K (.ref c21) "item" = some none)
    (i21 : IniF K c21 "BadText.__init__" (inClass (top 24) 0))
    (n22 : PySem.W.findIn K (.ref c22) "line" = some none)
    (m22 : PySem.W.findIn K (.ref c22) "error" = some none)
    (i22 : IniF K c22 "BadLine.__init__" (inClass (top 25) 0))
    (nM : PySem.W.findIn K (.ref cM) "value" = some none)
    (iM : IniF K cM "Missing.__init__" (inClass (top 14) 0))
    (kit : kitB K [c0, c1, c2, c3, c4, c5, c6, c7, c8, c9, c10, c11, c12, c13, c14, c15, c16, c17, c18, c19, c20, c21, c22] cM cT = true) (ms : msB K [c0, c1, c2, c3, c4, c5, c6, c7, c8, c9, c10, c11, c12, c13, c14, c15, c16, c17, c18, c19, c20, c21, c22] cM cT = true)
    (e20x : PySem.W.excIn K c20 [.type "ValueError", .type "Exception", .type "BaseException", .type "object"] "ValueError.__new__" = true)
    (z_int : PySem.W.nsIn K mainGlobals "int" = some none)
    (z_abs : PySem.W.nsIn K mainGlobals "abs" = some none)
    (z_str : PySem.W.nsIn K mainGlobals "str" = some none)
    (z_range : PySem.W.nsIn K mainGlobals "range" = some none)
    (z_isinstance : PySem.W.nsIn K mainGlobals "isinstance" = some none)
    (z_ValueError : PySem.W.nsIn K mainGlobals "ValueError" = some none)
    (z_LookupError : PySem.W.nsIn K mainGlobals "LookupError" = some none)
    (z_TypeError : PySem.W.nsIn K mainGlobals "TypeError" = some none)
    (z_ArithmeticError : PySem.W.nsIn K mainGlobals "ArithmeticError" = some none)
    (z_AttributeError : PySem.W.nsIn K mainGlobals "AttributeError" = some none)
    (z_RuntimeError : PySem.W.nsIn K mainGlobals "RuntimeError" = some none)
    (t_bag : TopF K "_law_bag" s_law_bag)
    (t_pull : TopF K "_law_pull" s_law_pull)
    (t_field : TopF K "_law_field" s_law_field)
    (t_is_one : TopF K "_law_is_one" s_law_is_one)
    (t_by_place : TopF K "_law_by_place" s_law_by_place)
    (t_by_name : TopF K "_law_by_name" s_law_by_name)
    (t_kept : TopF K "_law_kept" s_law_kept)
    (t_single_right : TopF K "_law_single_right" s_law_single_right)
    (t_double_right : TopF K "_law_double_right" s_law_double_right)
    (t_raised : TopF K "_law_raised" s_law_raised)
    (t_caught : TopF K "_law_caught" s_law_caught)
    (t_law : TopF K "law" slaw)
    : ∃ fd : FuncData, (∀ (s : Shared) (v : Value), BindsTo s fd ⟨[v], []⟩ [("_law_script", v)]) ∧ ∀ base : Heap, K.In base → base.Ns mainGlobals mg → FnOk P w K mg base CX0 5 fa fd ["_law_script"] (spLaw K) := by
  have B : Blt mg := ⟨PySem.W.mg_none_of X G z_int, PySem.W.mg_none_of X G z_abs, PySem.W.mg_none_of X G z_str, PySem.W.mg_none_of X G z_range, PySem.W.mg_none_of X G z_isinstance, PySem.W.mg_none_of X G z_ValueError, PySem.W.mg_none_of X G z_LookupError, PySem.W.mg_none_of X G z_TypeError, PySem.W.mg_none_of X G z_ArithmeticError, PySem.W.mg_none_of X G z_AttributeError, PySem.W.mg_none_of X G z_RuntimeError⟩
  have q := ms
  unfold msB at q
  simp only [Bool.and_eq_true, decide_eq_true_eq] at q
  obtain ⟨q1, q2, q3, q4, q5, q6, q7, q8, q9, q10, q11⟩ := q
  have M : Exm K (nth [c0, c1, c2, c3, c4, c5, c6, c7, c8, c9, c10, c11, c12, c13, c14, c15, c16, c17, c18, c19, c20, c21, c22]) cM cT := ⟨q6, q7, q8, q9, q10, q11⟩
  have km : ExK K cM := exk_of xM eM
  have hk : ∀ n, n < 23 → ExK K (nth [c0, c1, c2, c3, c4, c5, c6, c7, c8, c9, c10, c11, c12, c13, c14, c15, c16, c17, c18, c19, c20, c21, c22] n) := fun n hn => match n, hn with
    | 0, _ => exk_of x0 e0
    | 1, _ => exk_of x1 e1
    | 2, _ => exk_of x2 e2
    | 3, _ => exk_of x3 e3
    | 4, _ => exk_of x4 e4
    | 5, _ => exk_of x5 e5
    | 6, _ => exk_of x6 e6
    | 7, _ => exk_of x7 e7
    | 8, _ => exk_of x8 e8
    | 9, _ => exk_of x9 e9
    | 10, _ => exk_of x10 e10
    | 11, _ => exk_of x11 e11
    | 12, _ => exk_of x12 e12
    | 13, _ => exk_of x13 e13
    | 14, _ => exk_of x14 e14
    | 15, _ => exk_of x15 e15
    | 16, _ => exk_of x16 e16
    | 17, _ => exk_of x17 e17
    | 18, _ => exk_of x18 e18
    | 19, _ => exk_of x19 e19
    | 20, _ => exk_of x20 e20
    | 21, _ => exk_of x21 e21
    | 22, _ => exk_of x22 e22
    | n + 23, h => absurd h (by omega)
  have hm : ∀ n, n < 23 → mg (nameOf n) = some (.ref (nth [c0, c1, c2, c3, c4, c5, c6, c7, c8, c9, c10, c11, c12, c13, c14, c15, c16, c17, c18, c19, c20, c21, c22] n)) := fun n hn => match n, hn with
    | 0, _ => PySem.W.mg_of X G g0
    | 1, _ => PySem.W.mg_of X G g1
    | 2, _ => PySem.W.mg_of X G g2
    | 3, _ => PySem.W.mg_of X G g3
    | 4, _ => PySem.W.mg_of X G g4
    | 5, _ => PySem.W.mg_of X G g5
    | 6, _ => PySem.W.mg_of X G g6
    | 7, _ => PySem.W.mg_of X G g7
    | 8, _ => PySem.W.mg_of X G g8
    | 9, _ => PySem.W.mg_of X G g9
    | 10, _ => PySem.W.mg_of X G g10
    | 11, _ => PySem.W.mg_of X G g11
    | 12, _ => PySem.W.mg_of X G g12
    | 13, _ => PySem.W.mg_of X G g13
    | 14, _ => PySem.W.mg_of X G g14
    | 15, _ => PySem.W.mg_of X G g15
    | 16, _ => PySem.W.mg_of X G g16
    | 17, _ => PySem.W.mg_of X G g17
    | 18, _ => PySem.W.mg_of X G g18
    | 19, _ => PySem.W.mg_of X G g19
    | 20, _ => PySem.W.mg_of X G g20
    | 21, _ => PySem.W.mg_of X G g21
    | 22, _ => PySem.W.mg_of X G g22
    | n + 23, h => absurd h (by omega)
  have her : ∀ base : Heap, ∀ n, n < 19 → Er1 P w K mg base (nameOf n) (fld n) (fld n) (nth [c0, c1, c2, c3, c4, c5, c6, c7, c8, c9, c10, c11, c12, c13, c14, c15, c16, c17, c18, c19, c20, c21, c22] n) := fun base n hn => match n, hn with
    | 0, _ => er_BadNumber (exk_of x0 e0) n0 (PySem.W.mg_of X G g0) i0
    | 1, _ => er_BadRatio (exk_of x1 e1) n1 (PySem.W.mg_of X G g1) i1
    | 2, _ => er_BadLot (exk_of x2 e2) n2 (PySem.W.mg_of X G g2) i2
    | 3, _ => er_BadBook (exk_of x3 e3) n3 (PySem.W.mg_of X G g3) i3
    | 4, _ => er_BadWeb (exk_of x4 e4) n4 (PySem.W.mg_of X G g4) i4
    | 5, _ => er_BadPolynomial (exk_of x5 e5) n5 (PySem.W.mg_of X G g5) i5
    | 6, _ => er_BadQuotient (exk_of x6 e6) n6 (PySem.W.mg_of X G g6) i6
    | 7, _ => er_BadQuestion (exk_of x7 e7) n7 (PySem.W.mg_of X G g7) i7
    | 8, _ => er_BadTown (exk_of x8 e8) n8 (PySem.W.mg_of X G g8) i8
    | 9, _ => er_BadPaper (exk_of x9 e9) n9 (PySem.W.mg_of X G g9) i9
    | 10, _ => er_BadDesk (exk_of x10 e10) n10 (PySem.W.mg_of X G g10) i10
    | 11, _ => er_Misfit (exk_of x11 e11) n11 (PySem.W.mg_of X G g11) i11
    | 12, _ => er_NoPoint (exk_of x12 e12) n12 (PySem.W.mg_of X G g12) i12
    | 13, _ => er_NoTie (exk_of x13 e13) n13 (PySem.W.mg_of X G g13) i13
    | 14, _ => er_NoSort (exk_of x14 e14) n14 (PySem.W.mg_of X G g14) i14
    | 15, _ => er_NoKind (exk_of x15 e15) n15 (PySem.W.mg_of X G g15) i15
    | 16, _ => er_NoName (exk_of x16 e16) n16 (PySem.W.mg_of X G g16) i16
    | 17, _ => er_Twice (exk_of x17 e17) n17 (PySem.W.mg_of X G g17) i17
    | 18, _ => er_Impossible (exk_of x18 e18) n18 (PySem.W.mg_of X G g18) i18
    | n + 19, h => absurd h (by omega)
  have T : ∀ base : Heap, Ers P w K mg base (nth [c0, c1, c2, c3, c4, c5, c6, c7, c8, c9, c10, c11, c12, c13, c14, c15, c16, c17, c18, c19, c20, c21, c22]) cM cT := fun base => {
    m := hm
    mM := PySem.W.mg_of X G gM
    mT := PySem.W.mg_of X G gT
    k := hk
    kit := fun n i hn hi => (kitB_at kit hn).1 i hi
    kitM := fun n hn => (kitB_at kit hn).2.1
    kitT := fun n hn => (kitB_at kit hn).2.2.1
    kitV := fun n hn => (kitB_at kit hn).2.2.2.1
    kitB := fun n hn => (kitB_at kit hn).2.2.2.2
    er := her base
    miss := er_Missing km nM (PySem.W.mg_of X G gM) iM
    kitMT := q2
    kitMB := q1
    e19 := er_TooMany (exk_of x19 e19) n19 m19 (PySem.W.mg_of X G g19) i19
    e21 := er_BadText (exk_of x21 e21) n21 m21 (PySem.W.mg_of X G g21) i21
    e22 := er_BadLine (exk_of x22 e22) n22 m22 (PySem.W.mg_of X G g22) i22
    e20 := e20x
    cmp := ⟨q3, q4, q5⟩ }
  obtain ⟨f, oc, od, an, kV, dc, pm, cd, ct, sl, aL, lL, cL, kL⟩ := t_law.ex
  have e := hfa.symm.trans (PySem.W.mg_of X G aL)
  cases e
  have F1 := fun_mk (st := slaw) lL cL kL
  refine ⟨PySem.W.fnOf "law" "law" (defArgs slaw) (defBody slaw) (defScope slaw) .none kV dc pm an cd ct, fun s v => .of_eq rfl, fun base _ _ => ?_⟩
  have T := T base
  have O_bag : Ok P w K mg base CX0 "_law_bag" 1 ["_law_script"] (spBag K) := ok_of X G t_bag (fun _ _ _ _ _ _ us hl => match us, hl with | [_], _ => rfl) (fun F => ok_bag B F)
  have O_pull : Ok P w K mg base CX0 "_law_pull" 1 ["_law_bag_here", "_law_many"] (spPull) := ok_of X G t_pull (fun _ _ _ _ _ _ us hl => match us, hl with | [_, _], _ => rfl) (fun F => ok_pull B F)
  have O_field : Ok P w K mg base CX0 "_law_field" 3 ["_law_bag_here"] (spField K) := ok_of X G t_field (fun _ _ _ _ _ _ us hl => match us, hl with | [_], _ => rfl) (fun F => ok_field B T O_pull F)
  have O_is_one : Ok P w K mg base CX0 "_law_is_one" 1 ["_law_error", "_law_number"] (spIsOne K (nth [c0, c1, c2, c3, c4, c5, c6, c7, c8, c9, c10, c11, c12, c13, c14, c15, c16, c17, c18, c19, c20, c21, c22])) := ok_of X G t_is_one (fun _ _ _ _ _ _ us hl => match us, hl with | [_, _], _ => rfl) (fun F => ok_is_one B T F)
  have O_by_place : Ok P w K mg base CX0 "_law_by_place" 3 ["_law_field_here"] (spErrs (nth [c0, c1, c2, c3, c4, c5, c6, c7, c8, c9, c10, c11, c12, c13, c14, c15, c16, c17, c18, c19, c20, c21, c22])) := ok_of X G t_by_place (fun _ _ _ _ _ _ us hl => match us, hl with | [_], _ => rfl) (fun F => ok_by_place B T F)
  have O_by_name : Ok P w K mg base CX0 "_law_by_name" 3 ["_law_field_here"] (spErrs (nth [c0, c1, c2, c3, c4, c5, c6, c7, c8, c9, c10, c11, c12, c13, c14, c15, c16, c17, c18, c19, c20, c21, c22])) := ok_of X G t_by_name (fun _ _ _ _ _ _ us hl => match us, hl with | [_], _ => rfl) (fun F => ok_by_name B T F)
  have O_kept : Ok P w K mg base CX0 "_law_kept" 1 ["_law_error", "_law_number"] (spKept K (nth [c0, c1, c2, c3, c4, c5, c6, c7, c8, c9, c10, c11, c12, c13, c14, c15, c16, c17, c18, c19, c20, c21, c22])) := ok_of X G t_kept (fun _ _ _ _ _ _ us hl => match us, hl with | [_, _], _ => rfl) (fun F => ok_kept B T F)
  have O_single_right : Ok P w K mg base CX0 "_law_single_right" 4 ["_law_one", "_law_other"] (spDouble K) := ok_of X G t_single_right (fun _ _ _ _ _ _ us hl => match us, hl with | [_, _], _ => rfl) (fun F => ok_single B T O_is_one O_by_place O_by_name O_kept F)
  have O_double_right : Ok P w K mg base CX0 "_law_double_right" 3 ["_law_one", "_law_other"] (spDouble K) := ok_of X G t_double_right (fun _ _ _ _ _ _ us hl => match us, hl with | [_, _], _ => rfl) (fun F => ok_double B T O_is_one F)
  have O_raised : Ok P w K mg base (L2.CX P w) "_law_raised" 3 ["_law_number", "_law_field_here"] (spRaised (nth [c0, c1, c2, c3, c4, c5, c6, c7, c8, c9, c10, c11, c12, c13, c14, c15, c16, c17, c18, c19, c20, c21, c22])) := ok_of X G t_raised (fun _ _ _ _ _ _ us hl => match us, hl with | [_, _], _ => rfl) (fun F => ok_raised B T F)
  have O_caught : Ok P w K mg base CX0 "_law_caught" 4 ["_law_number", "_law_field_here"] (spCaught) := ok_of X G t_caught (fun _ _ _ _ _ _ us hl => match us, hl with | [_, _], _ => rfl) (fun F => ok_caught B T M O_raised F)
  exact ok_law B T O_bag O_field O_single_right O_double_right O_caught F1
theorem walk {l : PySem.W.OpenLaw} {q : Program} {loose : List Str} {XP : (Str → Option Value) → Heap → Prop} {YP : World → Heap → Prop} {d : DefRec} {K : Params → PySem.W.Frag} (hn : l.most = some 63) (hdf : d.params.defaults = [])
    (hY : ∀ (w : World) (h : Heap), YP w h → (K w.params).In h)
    (F : ∀ (w : World) (mg : Str → Option Value) (fa : Addr) (h : Heap), (K w.params).In h → h.Ns mainGlobals mg → mg d.name = some (.ref fa) →
      ∃ fd : FuncData, (∀ (s : Shared) (u : Value), BindsTo s fd ⟨[u], []⟩ [("_law_script", u)]) ∧ ∀ base : Heap, (K w.params).In base → base.Ns mainGlobals mg → FnOk l.prog w (K w.params) mg base CX0 5 fa fd ["_law_script"] (spLaw (K w.params))) :
    PySem.W.WalkO q loose XP YP l.row.toRowW d [] (fun f vs => PySem.call f vs) :=
  L2.walk_of (n := 63) (k := 5) (x := "_law_script") (CX := fun _ => CX0) (sp := fun w => spLaw (K w.params)) hn (by decide) hdf ⟨rfl, by decide, by decide⟩ hY F (fun _ _ a ns hl _ hS => ⟨a, ns, rfl, hS, fun _ => rfl⟩) fun _ _ _ _ _ z => z
end
end K00

set_option Elab.async false
set_option linter.all false
open PySem PySem.W PyProof.Rows
set_option maxRecDepth 100000 in
set_option maxHeartbeats 0 in
theorem PySem.Challenge.cw_thincoins_k00_errors_keep_their_fields_holds : PySem.Challenge.rw_thincoins_k00_errors_keep_their_fields.Holds := by
  w_on; o_law; k_head; (case hw => w_witness2)
  k_fill
  refine K00.walk (l := PySem.Challenge.rw_thincoins_k00_errors_keep_their_fields) rfl rfl (fun w h Y => PySem.W.kIn_of Y) ?kqF
  case kqF =>
    intro w mg fa h KX G hmg
    refine' K00.all_mk KX G hmg ?kq_g0 ?kq_g1 ?kq_g2 ?kq_g3 ?kq_g4 ?kq_g5 ?kq_g6 ?kq_g7 ?kq_g8 ?kq_g9 ?kq_g10 ?kq_g11 ?kq_g12 ?kq_g13 ?kq_g14 ?kq_g15 ?kq_g16 ?kq_g17 ?kq_g18 ?kq_g19 ?kq_g20 ?kq_g21 ?kq_g22 ?kq_gM ?kq_gT ?kq_x0 ?kq_e0 ?kq_x1 ?kq_e1 ?kq_x2 ?kq_e2 ?kq_x3 ?kq_e3 ?kq_x4 ?kq_e4 ?kq_x5 ?kq_e5 ?kq_x6 ?kq_e6 ?kq_x7 ?kq_e7 ?kq_x8 ?kq_e8 ?kq_x9 ?kq_e9 ?kq_x10 ?kq_e10 ?kq_x11 ?kq_e11 ?kq_x12 ?kq_e12 ?kq_x13 ?kq_e13 ?kq_x14 ?kq_e14 ?kq_x15 ?kq_e15 ?kq_x16 ?kq_e16 ?kq_x17 ?kq_e17 ?kq_x18 ?kq_e18 ?kq_x19 ?kq_e19 ?kq_x20 ?kq_e20 ?kq_x21 ?kq_e21 ?kq_x22 ?kq_e22 ?kq_xM ?kq_eM ?kq_n0 ?kq_i0 ?kq_n1 ?kq_i1 ?kq_n2 ?kq_i2 ?kq_n3 ?kq_i3 ?kq_n4 ?kq_i4 ?kq_n5 ?kq_i5 ?kq_n6 ?kq_i6 ?kq_n7 ?kq_i7 ?kq_n8 ?kq_i8 ?kq_n9 ?kq_i9 ?kq_n10 ?kq_i10 ?kq_n11 ?kq_i11 ?kq_n12 ?kq_i12 ?kq_n13 ?kq_i13 ?kq_n14 ?kq_i14 ?kq_n15 ?kq_i15 ?kq_n16 ?kq_i16 ?kq_n17 ?kq_i17 ?kq_n18 ?kq_i18 ?kq_n19 ?kq_m19 ?kq_i19 ?kq_n21 ?kq_m21 ?kq_i21 ?kq_n22 ?kq_m22 ?kq_i22 ?kq_nM ?kq_iM ?kq_kit ?kq_ms ?kq_e20x ?kq_z_int ?kq_z_abs ?kq_z_str ?kq_z_range ?kq_z_isinstance ?kq_z_ValueError ?kq_z_LookupError ?kq_z_TypeError ?kq_z_ArithmeticError ?kq_z_AttributeError ?kq_z_RuntimeError ?kq_t_bag ?kq_t_pull ?kq_t_field ?kq_t_is_one ?kq_t_by_place ?kq_t_by_name ?kq_t_kept ?kq_t_single_right ?kq_t_double_right ?kq_t_raised ?kq_t_caught ?kq_t_law
    (case kq_g0 => k_is)
    (case kq_g1 => k_is)
    (case kq_g2 => k_is)
    (case kq_g3 => k_is)
    (case kq_g4 => k_is)
    (case kq_g5 => k_is)
    (case kq_g6 => k_is)
    (case kq_g7 => k_is)
    (case kq_g8 => k_is)
    (case kq_g9 => k_is)
    (case kq_g10 => k_is)
    (case kq_g11 => k_is)
    (case kq_g12 => k_is)
    (case kq_g13 => k_is)
    (case kq_g14 => k_is)
    (case kq_g15 => k_is)
    (case kq_g16 => k_is)
    (case kq_g17 => k_is)
    (case kq_g18 => k_is)
    (case kq_g19 => k_is)
    (case kq_g20 => k_is)
    (case kq_g21 => k_is)
    (case kq_g22 => k_is)
    (case kq_gM => k_is)
    (case kq_gT => k_is)
    (case kq_x0 => kernel_rfl!)
    (case kq_e0 => kernel_rfl!)
    (case kq_x1 => kernel_rfl!)
    (case kq_e1 => kernel_rfl!)
    (case kq_x2 => kernel_rfl!)
    (case kq_e2 => kernel_rfl!)
    (case kq_x3 => kernel_rfl!)
    (case kq_e3 => kernel_rfl!)
    (case kq_x4 => kernel_rfl!)
    (case kq_e4 => kernel_rfl!)
    (case kq_x5 => kernel_rfl!)
    (case kq_e5 => kernel_rfl!)
    (case kq_x6 => kernel_rfl!)
    (case kq_e6 => kernel_rfl!)
    (case kq_x7 => kernel_rfl!)
    (case kq_e7 => kernel_rfl!)
    (case kq_x8 => kernel_rfl!)
    (case kq_e8 => kernel_rfl!)
    (case kq_x9 => kernel_rfl!)
    (case kq_e9 => kernel_rfl!)
    (case kq_x10 => kernel_rfl!)
    (case kq_e10 => kernel_rfl!)
    (case kq_x11 => kernel_rfl!)
    (case kq_e11 => kernel_rfl!)
    (case kq_x12 => kernel_rfl!)
    (case kq_e12 => kernel_rfl!)
    (case kq_x13 => kernel_rfl!)
    (case kq_e13 => kernel_rfl!)
    (case kq_x14 => kernel_rfl!)
    (case kq_e14 => kernel_rfl!)
    (case kq_x15 => kernel_rfl!)
    (case kq_e15 => kernel_rfl!)
    (case kq_x16 => kernel_rfl!)
    (case kq_e16 => kernel_rfl!)
    (case kq_x17 => kernel_rfl!)
    (case kq_e17 => kernel_rfl!)
    (case kq_x18 => kernel_rfl!)
    (case kq_e18 => kernel_rfl!)
    (case kq_x19 => kernel_rfl!)
    (case kq_e19 => kernel_rfl!)
    (case kq_x20 => kernel_rfl!)
    (case kq_e20 => kernel_rfl!)
    (case kq_x21 => kernel_rfl!)
    (case kq_e21 => kernel_rfl!)
    (case kq_x22 => kernel_rfl!)
    (case kq_e22 => kernel_rfl!)
    (case kq_xM => kernel_rfl!)
    (case kq_eM => kernel_rfl!)
    (case kq_n0 => k_is)
    (case kq_i0 => refine' K00.iniF_mk ?Ka_i0 ?Kt_i0 ?Kl_i0 ?Kc_i0 ?Kk_i0; (case Ka_i0 => k_is); (case Kt_i0 => k_is); (case Kl_i0 => k_is); (case Kc_i0 => k_is); (case Kk_i0 => k_is))
    (case kq_n1 => k_is)
    (case kq_i1 => refine' K00.iniF_mk ?Ka_i1 ?Kt_i1 ?Kl_i1 ?Kc_i1 ?Kk_i1; (case Ka_i1 => k_is); (case Kt_i1 => k_is); (case Kl_i1 => k_is); (case Kc_i1 => k_is); (case Kk_i1 => k_is))
    (case kq_n2 => k_is)
    (case kq_i2 => refine' K00.iniF_mk ?Ka_i2 ?Kt_i2 ?Kl_i2 ?Kc_i2 ?Kk_i2; (case Ka_i2 => k_is); (case Kt_i2 => k_is); (case Kl_i2 => k_is); (case Kc_i2 => k_is); (case Kk_i2 => k_is))
    (case kq_n3 => k_is)
    (case kq_i3 => refine' K00.iniF_mk ?Ka_i3 ?Kt_i3 ?Kl_i3 ?Kc_i3 ?Kk_i3; (case Ka_i3 => k_is); (case Kt_i3 => k_is); (case Kl_i3 => k_is); (case Kc_i3 => k_is); (case Kk_i3 => k_is))
    (case kq_n4 => k_is)
    (case kq_i4 => refine' K00.iniF_mk ?Ka_i4 ?Kt_i4 ?Kl_i4 ?Kc_i4 ?Kk_i4; (case Ka_i4 => k_is); (case Kt_i4 => k_is); (case Kl_i4 => k_is); (case Kc_i4 => k_is); (case Kk_i4 => k_is))
    (case kq_n5 => k_is)
    (case kq_i5 => refine' K00.iniF_mk ?Ka_i5 ?Kt_i5 ?Kl_i5 ?Kc_i5 ?Kk_i5; (case Ka_i5 => k_is); (case Kt_i5 => k_is); (case Kl_i5 => k_is); (case Kc_i5 => k_is); (case Kk_i5 => k_is))
    (case kq_n6 => k_is)
    (case kq_i6 => refine' K00.iniF_mk ?Ka_i6 ?Kt_i6 ?Kl_i6 ?Kc_i6 ?Kk_i6; (case Ka_i6 => k_is); (case Kt_i6 => k_is); (case Kl_i6 => k_is); (case Kc_i6 => k_is); (case Kk_i6 => k_is))
    (case kq_n7 => k_is)
    (case kq_i7 => refine' K00.iniF_mk ?Ka_i7 ?Kt_i7 ?Kl_i7 ?Kc_i7 ?Kk_i7; (case Ka_i7 => k_is); (case Kt_i7 => k_is); (case Kl_i7 => k_is); (case Kc_i7 => k_is); (case Kk_i7 => k_is))
    (case kq_n8 => k_is)
    (case kq_i8 => refine' K00.iniF_mk ?Ka_i8 ?Kt_i8 ?Kl_i8 ?Kc_i8 ?Kk_i8; (case Ka_i8 => k_is); (case Kt_i8 => k_is); (case Kl_i8 => k_is); (case Kc_i8 => k_is); (case Kk_i8 => k_is))
    (case kq_n9 => k_is)
    (case kq_i9 => refine' K00.iniF_mk ?Ka_i9 ?Kt_i9 ?Kl_i9 ?Kc_i9 ?Kk_i9; (case Ka_i9 => k_is); (case Kt_i9 => k_is); (case Kl_i9 => k_is); (case Kc_i9 => k_is); (case Kk_i9 => k_is))
    (case kq_n10 => k_is)
    (case kq_i10 => refine' K00.iniF_mk ?Ka_i10 ?Kt_i10 ?Kl_i10 ?Kc_i10 ?Kk_i10; (case Ka_i10 => k_is); (case Kt_i10 => k_is); (case Kl_i10 => k_is); (case Kc_i10 => k_is); (case Kk_i10 => k_is))
    (case kq_n11 => k_is)
    (case kq_i11 => refine' K00.iniF_mk ?Ka_i11 ?Kt_i11 ?Kl_i11 ?Kc_i11 ?Kk_i11; (case Ka_i11 => k_is); (case Kt_i11 => k_is); (case Kl_i11 => k_is); (case Kc_i11 => k_is); (case Kk_i11 => k_is))
    (case kq_n12 => k_is)
    (case kq_i12 => refine' K00.iniF_mk ?Ka_i12 ?Kt_i12 ?Kl_i12 ?Kc_i12 ?Kk_i12; (case Ka_i12 => k_is); (case Kt_i12 => k_is); (case Kl_i12 => k_is); (case Kc_i12 => k_is); (case Kk_i12 => k_is))
    (case kq_n13 => k_is)
    (case kq_i13 => refine' K00.iniF_mk ?Ka_i13 ?Kt_i13 ?Kl_i13 ?Kc_i13 ?Kk_i13; (case Ka_i13 => k_is); (case Kt_i13 => k_is); (case Kl_i13 => k_is); (case Kc_i13 => k_is); (case Kk_i13 => k_is))
    (case kq_n14 => k_is)
    (case kq_i14 => refine' K00.iniF_mk ?Ka_i14 ?Kt_i14 ?Kl_i14 ?Kc_i14 ?Kk_i14; (case Ka_i14 => k_is); (case Kt_i14 => k_is); (case Kl_i14 => k_is); (case Kc_i14 => k_is); (case Kk_i14 => k_is))
    (case kq_n15 => k_is)
    (case kq_i15 => refine' K00.iniF_mk ?Ka_i15 ?Kt_i15 ?Kl_i15 ?Kc_i15 ?Kk_i15; (case Ka_i15 => k_is); (case Kt_i15 => k_is); (case Kl_i15 => k_is); (case Kc_i15 => k_is); (case Kk_i15 => k_is))
    (case kq_n16 => k_is)
    (case kq_i16 => refine' K00.iniF_mk ?Ka_i16 ?Kt_i16 ?Kl_i16 ?Kc_i16 ?Kk_i16; (case Ka_i16 => k_is); (case Kt_i16 => k_is); (case Kl_i16 => k_is); (case Kc_i16 => k_is); (case Kk_i16 => k_is))
    (case kq_n17 => k_is)
    (case kq_i17 => refine' K00.iniF_mk ?Ka_i17 ?Kt_i17 ?Kl_i17 ?Kc_i17 ?Kk_i17; (case Ka_i17 => k_is); (case Kt_i17 => k_is); (case Kl_i17 => k_is); (case Kc_i17 => k_is); (case Kk_i17 => k_is))
    (case kq_n18 => k_is)
    (case kq_i18 => refine' K00.iniF_mk ?Ka_i18 ?Kt_i18 ?Kl_i18 ?Kc_i18 ?Kk_i18; (case Ka_i18 => k_is); (case Kt_i18 => k_is); (case Kl_i18 => k_is); (case Kc_i18 => k_is); (case Kk_i18 => k_is))
    (case kq_n19 => k_is)
    (case kq_m19 => k_is)
    (case kq_i19 => refine' K00.iniF_mk ?Ka_i19 ?Kt_i19 ?Kl_i19 ?Kc_i19 ?Kk_i19; (case Ka_i19 => k_is); (case Kt_i19 => k_is); (case Kl_i19 => k_is); (case Kc_i19 => k_is); (case Kk_i19 => k_is))
    (case kq_n21 => k_is)
    (case kq_m21 => k_is)
    (case kq_i21 => refine' K00.iniF_mk ?Ka_i21 ?Kt_i21 ?Kl_i21 ?Kc_i21 ?Kk_i21; (case Ka_i21 => k_is); (case Kt_i21 => k_is); (case Kl_i21 => k_is); (case Kc_i21 => k_is); (case Kk_i21 => k_is))
    (case kq_n22 => k_is)
    (case kq_m22 => k_is)
    (case kq_i22 => refine' K00.iniF_mk ?Ka_i22 ?Kt_i22 ?Kl_i22 ?Kc_i22 ?Kk_i22; (case Ka_i22 => k_is); (case Kt_i22 => k_is); (case Kl_i22 => k_is); (case Kc_i22 => k_is); (case Kk_i22 => k_is))
    (case kq_nM => k_is)
    (case kq_iM => refine' K00.iniF_mk ?Ka_iM ?Kt_iM ?Kl_iM ?Kc_iM ?Kk_iM; (case Ka_iM => k_is); (case Kt_iM => k_is); (case Kl_iM => k_is); (case Kc_iM => k_is); (case Kk_iM => k_is))
    (case kq_kit => kernel_rfl!)
    (case kq_ms => kernel_rfl!)
    (case kq_e20x => k_exc)
    (case kq_z_int => k_is)
    (case kq_z_abs => k_is)
    (case kq_z_str => k_is)
    (case kq_z_range => k_is)
    (case kq_z_isinstance => k_is)
    (case kq_z_ValueError => k_is)
    (case kq_z_LookupError => k_is)
    (case kq_z_TypeError => k_is)
    (case kq_z_ArithmeticError => k_is)
    (case kq_z_AttributeError => k_is)
    (case kq_z_RuntimeError => k_is)
    (case kq_t_bag => refine' K00.topF_mk ?Ka_t_bag ?Kl_t_bag ?Kc_t_bag ?Kk_t_bag; (case Ka_t_bag => k_is); (case Kl_t_bag => k_is); (case Kc_t_bag => k_is); (case Kk_t_bag => k_is))
    (case kq_t_pull => refine' K00.topF_mk ?Ka_t_pull ?Kl_t_pull ?Kc_t_pull ?Kk_t_pull; (case Ka_t_pull => k_is); (case Kl_t_pull => k_is); (case Kc_t_pull => k_is); (case Kk_t_pull => k_is))
    (case kq_t_field => refine' K00.topF_mk ?Ka_t_field ?Kl_t_field ?Kc_t_field ?Kk_t_field; (case Ka_t_field => k_is); (case Kl_t_field => k_is); (case Kc_t_field => k_is); (case Kk_t_field => k_is))
    (case kq_t_is_one => refine' K00.topF_mk ?Ka_t_is_one ?Kl_t_is_one ?Kc_t_is_one ?Kk_t_is_one; (case Ka_t_is_one => k_is); (case Kl_t_is_one => k_is); (case Kc_t_is_one => k_is); (case Kk_t_is_one => k_is))
    (case kq_t_by_place => refine' K00.topF_mk ?Ka_t_by_place ?Kl_t_by_place ?Kc_t_by_place ?Kk_t_by_place; (case Ka_t_by_place => k_is); (case Kl_t_by_place => k_is); (case Kc_t_by_place => k_is); (case Kk_t_by_place => k_is))
    (case kq_t_by_name => refine' K00.topF_mk ?Ka_t_by_name ?Kl_t_by_name ?Kc_t_by_name ?Kk_t_by_name; (case Ka_t_by_name => k_is); (case Kl_t_by_name => k_is); (case Kc_t_by_name => k_is); (case Kk_t_by_name => k_is))
    (case kq_t_kept => refine' K00.topF_mk ?Ka_t_kept ?Kl_t_kept ?Kc_t_kept ?Kk_t_kept; (case Ka_t_kept => k_is); (case Kl_t_kept => k_is); (case Kc_t_kept => k_is); (case Kk_t_kept => k_is))
    (case kq_t_single_right => refine' K00.topF_mk ?Ka_t_single_right ?Kl_t_single_right ?Kc_t_single_right ?Kk_t_single_right; (case Ka_t_single_right => k_is); (case Kl_t_single_right => k_is); (case Kc_t_single_right => k_is); (case Kk_t_single_right => k_is))
    (case kq_t_double_right => refine' K00.topF_mk ?Ka_t_double_right ?Kl_t_double_right ?Kc_t_double_right ?Kk_t_double_right; (case Ka_t_double_right => k_is); (case Kl_t_double_right => k_is); (case Kc_t_double_right => k_is); (case Kk_t_double_right => k_is))
    (case kq_t_raised => refine' K00.topF_mk ?Ka_t_raised ?Kl_t_raised ?Kc_t_raised ?Kk_t_raised; (case Ka_t_raised => k_is); (case Kl_t_raised => k_is); (case Kc_t_raised => k_is); (case Kk_t_raised => k_is))
    (case kq_t_caught => refine' K00.topF_mk ?Ka_t_caught ?Kl_t_caught ?Kc_t_caught ?Kk_t_caught; (case Ka_t_caught => k_is); (case Kl_t_caught => k_is); (case Kc_t_caught => k_is); (case Kk_t_caught => k_is))
    (case kq_t_law => refine' K00.topF_mk ?Ka_t_law ?Kl_t_law ?Kc_t_law ?Kk_t_law; (case Ka_t_law => k_is); (case Kl_t_law => k_is); (case Kc_t_law => k_is); (case Kk_t_law => k_is))

