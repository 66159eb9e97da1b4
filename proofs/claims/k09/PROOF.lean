import PyProof.Rows.All
import Wide.All
import OpenK.AllK
import Wide.FinOn
import HandS.ForMost
import HandS.Codes
import HandS.Defaults
import HandS.MakeKwOnly
import HandS.Property
import HandS.IsInst
import HandS.DictComp
import HandS.Wide
import HandS.EndBits
import HandS.Deep
import HandS.TupAny
import HandS.Style
import HandS.More
import HandS.ListItems
import HandS.Walk
import HandS.Strs
import HandS.SortKw
import HandS.Sort
import KE.KDictList
import PySem.Challenge.RW_termlays_k09_days_by_hand
set_option Elab.async false
set_option linter.all false
set_option maxRecDepth 100000
set_option maxHeartbeats 4000000
/-! Common ground of the proofs about termlays: names that are built-in, big ints, the tape of draws. -/
namespace Tm
open PySem PySem.Spec PyProof.Rows L2

/-- built-in names that the program leaves as they are -/
structure Bl (mg : Str → Option Value) : Prop where
  b_len : mg "len" = none
  b_range : mg "range" = none
  b_int : mg "int" = none
  b_str : mg "str" = none
  b_bool : mg "bool" = none
  b_list : mg "list" = none
  b_tuple : mg "tuple" = none
  b_dict : mg "dict" = none
  b_set : mg "set" = none
  b_max : mg "max" = none
  b_min : mg "min" = none
  b_all : mg "all" = none
  b_sorted : mg "sorted" = none
  b_isinstance : mg "isinstance" = none
  b_enumerate : mg "enumerate" = none
  b_repr : mg "repr" = none

/-- a def of the module without defaults -/
structure DefX (K : PySem.W.Frag) (mg : Str → Option Value) (x : Str) (st : Stmt) : Prop where
  ex : ∃ (f : Addr) (fd : FuncData), C8.Def K mg x st f fd ∧ fd.defaults = .none

section
variable {P : Program} {w : World} {K : PySem.W.Frag} {mg : Str → Option Value} {base : Heap}
theorem cal_of {x : Str} {st : Stmt} {N ps : List Str} {k : Nat} {sp : Sp} (F : DefX K mg x st) (S : FnScope N ps (C8.fnScope st))
    (hb : ∀ (kV doc pm : Value) (an : Option Addr) (cdv ct : Value) (us : List Value), us.length = ps.length → bindArgs (PySem.W.fnOf x x (C8.fnArgs st) (C8.fnBody st) (C8.fnScope st) .none kV doc pm an cdv ct) ⟨us, []⟩ = pure (ps.zip us))
    (len : ∀ vs H Q E, sp vs H Q E → vs.length = ps.length)
    (go : ∀ (f : Addr) (cdv : Value) (A : Around) (outer : List Env) (s : Shared) (H : Hp) (vs : List V) (Q : VK) (E : XK), Room k (A.deeper (envOfC x (C8.fnScope st) s.heap.objs.size f cdv)) → sp vs H Q E →
      ∃ t, PSs (cxOf C8.CX0 P w K mg base N x (C8.fnScope st) f cdv A outer s H E).nox (C8.fnBody st) t ∧ t { nx := fun _ H' => Q .non H', rt := Q } (start N vs) H) : C8.Cal P w K mg base (k + 1) x sp [] := by
  obtain ⟨f, fd, D, df⟩ := F.ex
  exact C8.cal0 D (D.fn.binds df hb) .nil S len fun cdv A outer s H vs Q E hr h => go f cdv A outer s H vs Q E hr h
end

/-! ### calls of built-ins under names of their own -/
def rInt1 : List V → Hp → VK → Prop := fun xs H Q => ∃ i, xs = [.int i] ∧ Q (.int i) H
def rLenQ (K : PySem.W.Frag) : List V → Hp → VK → Prop := fun xs H Q => ∃ p ys, xs = [.ref p] ∧ (SqL K H p ys ∨ SqT K H p ys) ∧ Q (.int ys.length) H
def rLenT : List V → Hp → VK → Prop := fun xs H Q => ∃ z, xs = [.str z] ∧ z.length ≤ sizeLine ∧ Q (.int z.length) H
def rList (K : PySem.W.Frag) : List V → Hp → VK → Prop := fun xs H Q => ∃ p ys, xs = [.ref p] ∧ (SqL K H p ys ∨ SqT K H p ys) ∧ ∀ l, H l = none → Q (.ref l) (upd H l (.lst ys))
def rMax2 : List V → Hp → VK → Prop := fun xs H Q => ∃ i j, xs = [.int i, .int j] ∧ Q (.int (if j > i then j else i)) H
def rMin2 : List V → Hp → VK → Prop := fun xs H Q => ∃ i j, xs = [.int i, .int j] ∧ Q (.int (if j < i then j else i)) H
section
variable {X : Cx}
theorem call_int1' : CallR X (.type "int") rInt1 := by
  intro pins s σ H xs us Q I r h
  obtain ⟨i, rfl, q⟩ := h
  exact call_int1 pins s σ H _ us Q I r (.inl ⟨i, rfl, q⟩)
theorem call_len_seq' : CallR X (.builtin "len") (rLenQ X.K) := call_len_seq
theorem call_len_str' : CallR X (.builtin "len") rLenT := call_len_str
theorem call_list_of' : CallR X (.type "list") (rList X.K) := call_list_of
theorem call_max2' (hc : X.calm = true) : CallR X (.builtin "max") rMax2 := call_max2 hc
theorem call_min2' (hc : X.calm = true) : CallR X (.builtin "min") rMin2 := call_min2 hc
end

/-! ### big ints -/
def CMulB (i j : Int) : Prop := i.natAbs.log2 + j.natAbs.log2 < 100000000
theorem CMulB.ok {i j : Int} (h : CMulB i j) : IntMulOk i j := by
  have lo : ∀ x : Int, Builtin.Int.intBits x ≤ x.natAbs.log2 + 1 := by
    intro x
    unfold Builtin.Int.intBits
    split <;> omega
  have hi := lo i
  have hj := lo j
  have hs : i.natAbs.log2 + j.natAbs.log2 < 100000000 := h
  have bl : bitsLine = 134217728 := by decide
  unfold IntMulOk
  intro z
  rw [Bool.and_eq_true] at z
  have zz := z.2
  unfold Builtin.Int.intTooBig at zz
  have z4 := of_decide_eq_true zz
  rw [bl] at z4
  omega
def CPowB (i j : Int) : Prop := 0 ≤ j ∧ (Builtin.Int.intBits i : Int) * j ≤ 2 ^ 27
section
variable {X : Cx}
theorem op_mulB : OpR X (binaryOp .Mult) (rI CMulB fun i j => .int (i * j)) := opI fun _ _ _ _ _ _ _ c q => mul_int q c.ok
theorem op_powB : OpR X (binaryOp .Pow) (rI CPowB fun i j => .int (i ^ j.toNat)) := opI fun _ _ _ _ _ _ _ c q => pow_int c.1 c.2 q
end
theorem bits_le_log (x : Int) : Builtin.Int.intBits x ≤ x.natAbs.log2 + 1 := by
  unfold Builtin.Int.intBits
  split <;> omega
theorem log_lt_of {x : Nat} {b : Nat} (h : x < 2 ^ b) (hb : 0 < b) : x.log2 < b := by
  by_cases e : x = 0
  · subst e
    rw [Nat.log2_zero]
    exact hb
  · exact (Nat.log2_lt e).mpr h
theorem lt_of_bits {x : Int} {b : Nat} (h : Builtin.Int.intBits x ≤ b) : x.natAbs < 2 ^ b := by
  unfold Builtin.Int.intBits at h
  by_cases e : x.natAbs = 0
  · rw [e]
    exact Nat.two_pow_pos b
  · have e2 : x ≠ 0 := fun z => e (by rw [z]; rfl)
    have h2 : x.natAbs.log2 < b := by
      split at h
      · rename_i q
        first
          | exact absurd (by simpa using q) e2
          | omega
      · omega
    exact (Nat.log2_lt e).mp h2

/-! ### the tape of draws -/
def tapeO (D M : Int) : HO := .dK [(Sum.inr "digits", .int D), (Sum.inr "mixed", .int M)]
structure Tp (D M : Int) : Prop where
  d0 : 0 ≤ D
  m0 : 0 ≤ M
  m1 : M < 4294967296
def spTape (K : PySem.W.Frag) : Sp := fun vs H Q _ => ∃ (a : Addr) (ns : List Int) (k : Int), vs = [.ref a, .int k] ∧ SqL K H a (ns.map V.int) ∧ (∀ z ∈ ns, Builtin.Int.intBits z ≤ 1048576) ∧ 0 ≤ k ∧ k < 100 ∧
  ∀ (d : Addr) (D M : Int), H d = none → Tp D M → Q (.ref d) (upd H d (tapeO D M))
def spPick : Sp := fun vs H Q _ => ∃ (d : Addr) (D M n : Int), vs = [.ref d, .int n] ∧ H d = some (tapeO D M) ∧ Tp D M ∧ 0 < n ∧ n < 1000000000 ∧
  ∀ (r D' M' : Int), 0 ≤ r → r < n → Tp D' M' → Q (.int r) (upd H d (tapeO D' M'))
end Tm
set_option maxRecDepth 100000
set_option maxHeartbeats 4000000
/-! Readings, one step a rule. -/
namespace Tm
open PySem PySem.Spec PyProof.Rows L2
section
variable {K : PySem.W.Frag} {σ : L2.St} {H H1 : Hp} {Q : VK} {D : Ends} {t u : TS} {ta tb tc te : TE} {g : TG} {x y v : V} {i j : Int} {n m : Nat} {QT : Bool → Hp → Prop}
theorem x_seq (h : t { D with nx := u D } σ H) : tSeq t u D σ H := h
theorem x_asg (h : te σ H fun x H1 => g x σ H1 D.nx) : tAsg te g D σ H := h
theorem x_gName {QG : L2.St → Hp → Prop} (h : QG (σ.set n (some v)) H) : gName n v σ H QG := h
theorem x_ret (h : te σ H D.rt) : tRet te D σ H := h
theorem x_retN (h : D.rt .non H) : tRetN D σ H := h
theorem x_drop (h : te σ H fun _ H1 => D.nx σ H1) : tDrop te D σ H := h
theorem x_next (h : D.nx σ H) : tNext D σ H := h
theorem x_ifS {c : TT} (h : c σ H fun b H1 => if b = true then t D σ H1 else u D σ H1) : tIfS c t u D σ H := h
theorem x_par {ta : TA} (h : ta σ H fun vs H1 => ∃ v w, vs = [v, w] ∧ D.nx ((σ.set n (some v)).set m (some w)) H1) : tPar n m ta D σ H := h
theorem x_var (e : σ[n]? = some (some v)) (h : Q v H) : tVar n σ H Q := ⟨v, e, h⟩
theorem x_C (h : Q v H) : tC v σ H Q := h
theorem x_op {r : R2} (h : ta σ H fun x H1 => tb σ H1 fun y H2 => r x y H2 Q) : tOp r ta tb σ H Q := h
theorem x_rI0 {f : Int → Int → V} (h : Q (f i j) H) : rI0 f (.int i) (.int j) H Q := ⟨i, j, rfl, rfl, h⟩
theorem x_rI {C : Int → Int → Prop} {f : Int → Int → V} (c : C i j) (h : Q (f i j) H) : rI C f (.int i) (.int j) H Q := ⟨i, j, rfl, rfl, c, h⟩
theorem x_un {r : V → Hp → VK → Prop} (h : ta σ H fun x H1 => r x H1 Q) : tUn r ta σ H Q := h
theorem x_rU {f : Int → V} (h : Q (f i) H) : rU f (.int i) H Q := ⟨i, rfl, h⟩
theorem x_cb {r : List V → Hp → VK → Prop} {t : TA} (h : t σ H fun vs H1 => r vs H1 Q) : tCB r t σ H Q := h
theorem x_nil {QA : List V → Hp → Prop} (h : QA [] H) : tNil σ H QA := h
theorem x_cons {QA : List V → Hp → Prop} {tr : TA} (h : ta σ H fun x H1 => tr σ H1 fun xs H2 => QA (x :: xs) H2) : tCons ta tr σ H QA := h
theorem x_test (h : te σ H fun x H' => ∃ k, x = .bl k ∧ QT k H') : tTest te σ H QT := h
theorem x_tB (h : te σ H fun x H' => ∃ k, x = .bl k ∧ QT k H') : tB te σ H QT := h

theorem x_bl2 {b : Bool} {F : Bool → Prop} (h : F b) : ∃ k, V.bl b = .bl k ∧ F k := ⟨b, rfl, h⟩
theorem x_and {t u : TT} (h : t σ H fun c H1 => if c = true then u σ H1 QT else QT false H1) : tAnd t u σ H QT := h
theorem x_or {t u : TT} (h : t σ H fun c H1 => if c = true then QT true H1 else u σ H1 QT) : tOr t u σ H QT := h
theorem x_not {t : TT} (h : t σ H fun c H1 => QT (!c) H1) : tNot t σ H QT := h
theorem x_andV (h : ta σ H fun x H1 => ∃ c, x = .bl c ∧ if c = true then tb σ H1 Q else Q (.bl false) H1) : tAndV ta tb σ H Q := h
theorem x_orV (h : ta σ H fun x H1 => ∃ c, x = .bl c ∧ if c = true then Q (.bl true) H1 else tb σ H1 Q) : tOrV ta tb σ H Q := h
theorem x_notV (h : ta σ H fun x H1 => ∃ c, x = .bl c ∧ Q (.bl (!c)) H1) : tNotV ta σ H Q := h
theorem x_if {t : TT} (h : t σ H fun c H1 => if c = true then ta σ H1 Q else tb σ H1 Q) : tIf t ta tb σ H Q := h
theorem x_chain {r r' : R2} (h : ta σ H fun x H1 => tb σ H1 fun y H2 => r x y H2 fun z H3 => ∃ k, z = .bl k ∧ (if k = true then tc σ H3 fun w' H4 => r' y w' H4 Q else Q (.bl false) H3)) : tChain r r' ta tb tc σ H Q := h
theorem x_eq (e : scal x y = true) (h : Q (.bl (decide (x = y))) H) : rEq x y H Q := ⟨e, h⟩
theorem x_ne (e : scal x y = true) (h : Q (.bl (!decide (x = y))) H) : rNe x y H Q := ⟨e, h⟩
theorem x_tup {t : TA} (h : t σ H fun xs H1 => xs.length ≤ sizeLine ∧ ∀ p, H1 p = none → Q (.ref p) (upd H1 p (.tup xs))) : tTup t σ H Q := h
theorem x_lst {t : TA} (h : t σ H fun xs H1 => xs.length ≤ sizeLine ∧ ∀ p, H1 p = none → Q (.ref p) (upd H1 p (.lst xs))) : tLst t σ H Q := h
theorem x_call {sp : Sp} {dvs : List V} {E : XK} {t : TA} (h : t σ H fun vs H1 => sp (vs ++ dvs) H1 Q E) : tCall sp dvs E t σ H Q := h
theorem x_sl {r : V → Option Int → Option Int → Hp → VK → Prop} {tl th : TO} (h : te σ H fun x H1 => tl σ H1 fun l H2 => th σ H2 fun u H3 => r x l u H3 Q) : tSl r te tl th σ H Q := h
theorem x_noPart {QO : Option Int → Hp → Prop} (h : QO none H) : tNoPart σ H QO := h
theorem x_part {QO : Option Int → Hp → Prop} (h : te σ H fun x H1 => ∃ i, x = .int i ∧ QO (some i) H1) : tPart te σ H QO := h
theorem x_int {QI : Int → Prop} (h : QI i) : ∃ k, V.int i = .int k ∧ QI k := ⟨i, rfl, h⟩
theorem x_int1 (h : Q (.int i) H) : rInt1 [.int i] H Q := ⟨i, rfl, h⟩
theorem x_dget {d : Addr} {kvs : List (Key × V)} {k : Str} {F : V → Prop} (hd : H d = some (.dK kvs)) (hv : valV kvs (Sum.inr k) = some v) (h : F v) : ∃ a w, V.ref d = .ref a ∧ DGet H a (.str k) (some w) ∧ F w :=
  ⟨d, v, rfl, by rw [← hv]; exact DGet.k (k := Sum.inr k) hd, h⟩
theorem x_dgetT (h : ta σ H fun x H1 => tb σ H1 fun y H2 => ∃ a v, x = .ref a ∧ DGet H2 a y (some v) ∧ Q v H2) : tDGet ta tb σ H Q := h
theorem x_dputT (h : tc σ H fun v H1 => ta σ H1 fun x H2 => tb σ H2 fun y H3 => ∃ a H4, x = .ref a ∧ DPut H3 a y v H4 ∧ D.nx σ H4) : sDPut ta tb tc D σ H := h
theorem x_dput {d : Addr} {kvs : List (Key × V)} {k : Str} {F : Hp → Prop} (hd : H d = some (.dK kvs)) (hl : kvs.length < sizeLine) (h : F (upd H d (.dK (putK kvs (Sum.inr k) v)))) : ∃ a H4, V.ref d = .ref a ∧ DPut H a (.str k) v H4 ∧ F H4 :=
  ⟨d, _, rfl, DPut.k (k := Sum.inr k) hd hl, h⟩
theorem x_dinT (h : ta σ H fun y H1 => tb σ H1 fun x H2 => ∃ a o, x = .ref a ∧ DGet H2 a y o ∧ Q (.bl o.isSome) H2) : tDIn ta tb σ H Q := h
theorem x_dnotinT (h : ta σ H fun y H1 => tb σ H1 fun x H2 => ∃ a o, x = .ref a ∧ DGet H2 a y o ∧ Q (.bl (!o.isSome)) H2) : tDNotIn ta tb σ H Q := h
theorem x_din {d : Addr} {kvs : List (Key × V)} {k : Str} {F : Bool → Prop} (hd : H d = some (.dK kvs)) (h : F (valV kvs (Sum.inr k)).isSome) : ∃ a o, V.ref d = .ref a ∧ DGet H a (.str k) o ∧ F o.isSome := ⟨d, _, rfl, DGet.k (k := Sum.inr k) hd, h⟩
theorem x_dnotin {d : Addr} {kvs : List (Key × V)} {k : Str} {F : Bool → Prop} (hd : H d = some (.dK kvs)) (h : F (valV kvs (Sum.inr k)).isSome) : ∃ a o, V.ref d = .ref a ∧ DGet H a (.str k) o ∧ F o.isSome := ⟨d, _, rfl, DGet.k (k := Sum.inr k) hd, h⟩
theorem x_ixL {p : Addr} {xs : List V} (hs : SqL K H p xs) (e : atI xs i = some v) (h : Q v H) : rIxL K (.ref p) (.int i) H Q := ⟨p, xs, i, v, rfl, rfl, hs, e, h⟩
theorem x_ixT {p : Addr} {xs : List V} (hs : SqT K H p xs) (e : atI xs i = some v) (h : Q v H) : rIxT K (.ref p) (.int i) H Q := ⟨p, xs, i, v, rfl, rfl, hs, e, h⟩
theorem x_lenL {p : Addr} {xs : List V} (hs : SqL K H p xs) (h : Q (.int xs.length) H) : rLenQ K [.ref p] H Q := ⟨p, xs, rfl, .inl hs, h⟩
theorem x_lenT {p : Addr} {xs : List V} (hs : SqT K H p xs) (h : Q (.int xs.length) H) : rLenQ K [.ref p] H Q := ⟨p, xs, rfl, .inr hs, h⟩
theorem x_lenS {z : Str} (hz : z.length ≤ sizeLine) (h : Q (.int z.length) H) : rLenT [.str z] H Q := ⟨z, rfl, hz, h⟩
theorem x_listL {p : Addr} {xs : List V} (hs : SqL K H p xs) (h : ∀ l, H l = none → Q (.ref l) (upd H l (.lst xs))) : rList K [.ref p] H Q := ⟨p, xs, rfl, .inl hs, h⟩
theorem x_listT {p : Addr} {xs : List V} (hs : SqT K H p xs) (h : ∀ l, H l = none → Q (.ref l) (upd H l (.lst xs))) : rList K [.ref p] H Q := ⟨p, xs, rfl, .inr hs, h⟩
theorem x_max2 (h : Q (.int (if j > i then j else i)) H) : rMax2 [.int i, .int j] H Q := ⟨i, j, rfl, h⟩
theorem x_min2 (h : Q (.int (if j < i then j else i)) H) : rMin2 [.int i, .int j] H Q := ⟨i, j, rfl, h⟩
theorem x_disp {trs : List (TE × TE)} (h : ∀ p, H p = none → tPairs trs σ (upd H p (.dK [])) fun ps H2 => H2 p = some (.dK []) ∧ ∃ kvs : List (Key × V), ps = kvs.map (fun kv => (kV kv.1, kv.2)) ∧ kvs.length ≤ 15 ∧ Q (.ref p) (upd H2 p (.dK (mergeK [] kvs)))) : tDisp trs σ H Q := h
theorem x_pairs {QP : List (V × V) → Hp → Prop} {r : List (TE × TE)} (h : ta σ H fun x H1 => tb σ H1 fun y H2 => tPairs r σ H2 fun ps H3 => QP ((x, y) :: ps) H3) : tPairs ((ta, tb) :: r) σ H QP := h
theorem x_pairs0 {QP : List (V × V) → Hp → Prop} (h : QP [] H) : tPairs [] σ H QP := h
theorem x_dnew (h : ∀ p, H p = none → Q (.ref p) (upd H p (.dK []))) : tDNewK σ H Q := h
/-- tests that are known -/
theorem i_t {c A B : Prop} [Decidable c] (hc : c) (h : A) : if decide c = true then A else B := by
  rw [decide_eq_true hc, if_pos rfl]
  exact h
theorem i_f {c A B : Prop} [Decidable c] (hc : ¬ c) (h : B) : if decide c = true then A else B := by
  rw [decide_eq_false hc, if_neg Bool.false_ne_true]
  exact h
theorem i_2 {c A B : Prop} [Decidable c] (h1 : c → A) (h2 : ¬ c → B) : if decide c = true then A else B := by
  by_cases hc : c
  · exact i_t hc (h1 hc)
  · exact i_f hc (h2 hc)
theorem i_nt {c A B : Prop} [Decidable c] (hc : c) (h : B) : if (!decide c) = true then A else B := by
  rw [decide_eq_true hc]
  exact iteF h
theorem i_nf {c A B : Prop} [Decidable c] (hc : ¬ c) (h : A) : if (!decide c) = true then A else B := by
  rw [decide_eq_false hc]
  exact iteT h
theorem i_bt {b : Bool} {A B : Prop} (hb : b = true) (h : A) : if b = true then A else B := by
  rw [hb, if_pos rfl]
  exact h
theorem i_bf {b : Bool} {A B : Prop} (hb : b = false) (h : B) : if b = true then A else B := by
  rw [hb, if_neg Bool.false_ne_true]
  exact h
end
/-! the tape's two entries -/
theorem kd_ne : ¬ ((Sum.inr ("digits" : Str) : Key) = Sum.inr ("mixed" : Str)) := by decide +kernel
theorem km_ne : ¬ ((Sum.inr ("mixed" : Str) : Key) = Sum.inr ("digits" : Str)) := by decide +kernel
section
variable {H : Hp} {d : Addr} {D M : Int} {F : Hp → Prop} {F1 : V → Prop}
theorem x_tD (hd : H d = some (tapeO D M)) (h : F1 (.int D)) : ∃ a w, V.ref d = .ref a ∧ DGet H a (.str "digits") (some w) ∧ F1 w := x_dget hd (valV_pos rfl) h
theorem x_tM (hd : H d = some (tapeO D M)) (h : F1 (.int M)) : ∃ a w, V.ref d = .ref a ∧ DGet H a (.str "mixed") (some w) ∧ F1 w := x_dget hd ((valV_neg kd_ne).trans (valV_pos rfl)) h
theorem putD (E : Int) : putK [((Sum.inr ("digits" : Str) : Key), V.int D), (Sum.inr ("mixed" : Str), V.int M)] (Sum.inr ("digits" : Str)) (V.int E) = [(Sum.inr ("digits" : Str), V.int E), (Sum.inr ("mixed" : Str), V.int M)] := by
  simp only [putK, List.any_cons, decide_true, Bool.true_or, if_true, List.map_cons, List.map_nil, if_neg km_ne]
theorem putM (E : Int) : putK [((Sum.inr ("digits" : Str) : Key), V.int D), (Sum.inr ("mixed" : Str), V.int M)] (Sum.inr ("mixed" : Str)) (V.int E) = [(Sum.inr ("digits" : Str), V.int D), (Sum.inr ("mixed" : Str), V.int E)] := by
  simp only [putK, List.any_cons, decide_true, Bool.true_or, Bool.or_true, if_true, List.map_cons, List.map_nil, if_neg kd_ne]
theorem mergeT : mergeK [] [((Sum.inr ("digits" : Str) : Key), V.int D), (Sum.inr ("mixed" : Str), V.int M)] = [(Sum.inr ("digits" : Str), V.int D), (Sum.inr ("mixed" : Str), V.int M)] := by
  simp only [mergeK, List.foldl_cons, List.foldl_nil, putK, List.any_cons, List.any_nil, Bool.false_eq_true, if_false, List.nil_append, Bool.or_false, decide_eq_true_eq, if_neg kd_ne, List.cons_append]
theorem x_tDput {E : Int} (hd : H d = some (tapeO D M)) (h : F (upd H d (tapeO E M))) : ∃ a H4, V.ref d = .ref a ∧ DPut H a (.str "digits") (.int E) H4 ∧ F H4 := x_dput hd (by show 2 < sizeLine; decide) (by rw [putD]; exact h)
theorem x_tMput {E : Int} (hd : H d = some (tapeO D M)) (h : F (upd H d (tapeO D E))) : ∃ a H4, V.ref d = .ref a ∧ DPut H a (.str "mixed") (.int E) H4 ∧ F H4 := x_dput hd (by show 2 < sizeLine; decide) (by rw [putM]; exact h)
end
end Tm
set_option maxRecDepth 100000
set_option maxHeartbeats 4000000
/-! The data of sheets, how they lie in the heap, and walks that make lists and dicts item by item. -/
namespace Tm
open PySem PySem.Spec PyProof.Rows L2

/-! ### heaps -/
/-- all tuples stand -/
def SameT (H H' : Hp) : Prop := ∀ b xs, H b = some (.tup xs) → H' b = some (.tup xs)
theorem SameT.refl (H : Hp) : SameT H H := fun _ _ h => h
theorem SameT.trans {H H1 H2 : Hp} (a : SameT H H1) (b : SameT H1 H2) : SameT H H2 := fun c xs h => b c xs (a c xs h)
theorem sameT {H H' : Hp} (s : Same H H') : SameT H H' := fun b xs h => s b _ h
theorem same_new {H : Hp} {p : Addr} {o : HO} (h : H p = none) : Same H (upd H p o) := fun b u e => by rw [upd_ne (ne_of_none e h)]; exact e
theorem same_newT {H H1 : Hp} {p : Addr} {o : HO} (s : Same H H1) (h : H1 p = none) : Same H (upd H1 p o) := s.trans (same_new h)
/-- an object that is new to H may be changed at will -/
theorem same_put {H H1 : Hp} {p : Addr} {o : HO} (s : Same H H1) (h : H p = none) : Same H (upd H1 p o) := fun b u e => by rw [upd_ne (ne_of_none e h)]; exact s b u e
theorem SameT.put {H : Hp} {p : Addr} {o u : HO} (h : H p = some u) (hu : ∀ xs, u ≠ .tup xs) : SameT H (upd H p o) := fun b xs e => by
  have n : b ≠ p := fun z => by
    rw [z, h] at e
    exact hu xs (Option.some.inj e)
  rw [upd_ne n]
  exact e
theorem SameT.new {H : Hp} {p : Addr} {o : HO} (h : H p = none) : SameT H (upd H p o) := sameT (same_new h)

/-! ### pairs of lists -/
theorem pr_at {α β : Type} {F : α → β → Prop} : ∀ {l : List α} {m : List β} {i : Nat} {x : α}, Paired F l m → l[i]? = some x → ∃ y, m[i]? = some y ∧ F x y
  | _, _, i, x, .nil, h => by simp at h
  | _, _, 0, x, .cons f _, h => by
    simp at h
    subst h
    exact ⟨_, rfl, f⟩
  | _, _, i + 1, x, .cons _ t, h => by
    obtain ⟨y, h1, h2⟩ := pr_at (i := i) t (by simpa using h)
    exact ⟨y, by simpa using h1, h2⟩
theorem pr_len {α β : Type} {F : α → β → Prop} : ∀ {l : List α} {m : List β}, Paired F l m → l.length = m.length
  | _, _, .nil => rfl
  | _, _, .cons _ t => congrArg Nat.succ (pr_len t)
theorem pr_mono {α β : Type} {F G : α → β → Prop} (h : ∀ a b, F a b → G a b) : ∀ {l : List α} {m : List β}, Paired F l m → Paired G l m
  | _, _, .nil => .nil
  | _, _, .cons f t => .cons (h _ _ f) (pr_mono h t)
theorem take_snoc {α : Type} {l : List α} {i : Nat} {x : α} (h : l[i]? = some x) : l.take (i + 1) = l.take i ++ [x] := by
  rw [List.take_add_one, h]
  rfl

/-! ### a list that is made item by item -/
section
variable {α : Type} {J : It} {n : Nat} {G : Hp → Prop} {Y : Nat → Hp → V → Hp → Prop}
theorem lc_rel (w : Walk J n G Y) {g : TG} {tt : TT} {te : TE} {vs : List Nat} {σ : L2.St} {H1 : Hp} {D : Addr} {Qd : Hp → Prop} (data : List α) (hn : data.length = n) (hz : n ≤ sizeLine) (R : Hp → V → α → Prop)
    (mono : ∀ H H' v d, SameT H H' → R H v d → R H' v d) (hD : H1 D = none) (hG : ∀ H, Same H1 H → G H)
    (hs : ∀ i d x H H', data[i]? = some d → Same H1 H → Y i H x H' → Same H H' ∧ ∀ (k : V → Hp → Prop) (z : Hp → Prop), (∀ y H4, Same H' H4 → R H4 y d → k y H4) →
      g x (wipe σ vs) H' fun σ2 H2 => wipe σ2 vs = wipe σ vs ∧ tt σ2 H2 fun b H3 => if b = true then te σ2 H3 k else z H3)
    (hd : ∀ H acc, Same H1 H → H D = some (.lst acc) → Paired (R H) acc data → Qd H) :
    ∃ W : Nat → Nat → Hp → Prop, (∃ m, W 0 m (upd H1 D (.lst []))) ∧ ∀ i m H, W i m H →
      (J.stop i H ∧ Qd H) ∨ (J.go i H ∧ ∃ Nx : Hp → Prop, (∀ H', Nx H' → ∃ m', m' < m ∧ W (i + 1) m' H') ∧ ∀ x H', J.yld i H x H' → g x (wipe σ vs) H' fun σ2 H2 => wipe σ2 vs = wipe σ vs ∧ tt σ2 H2 fun b H3 =>
        if b = true then te σ2 H3 fun y H4 => ∃ acc, H4 D = some (.lst acc) ∧ acc.length < sizeLine ∧ Nx (upd H4 D (.lst (acc ++ [y]))) else Nx H3) := by
  refine lc_it w (fun i H => Same H1 H ∧ ∃ acc, H D = some (.lst acc) ∧ Paired (R H) acc (data.take i)) ⟨same_new hD, [], upd_same, by rw [List.take_zero]; exact .nil⟩ (fun i H _ p => hG H p.1) ?_ ?_
  · rintro i x H H' hi ⟨s, acc, ha, pr⟩ y
    obtain ⟨d, hd'⟩ : ∃ d, data[i]? = some d := ⟨data[i]'(by omega), List.getElem?_eq_getElem (by omega)⟩
    obtain ⟨s1, go⟩ := hs i d x H H' hd' s y
    refine go _ _ fun v H4 s4 r => ?_
    have st : Same H H4 := s1.trans s4
    have la : acc.length = i := by rw [pr_len pr, List.length_take]; omega
    refine ⟨acc, st _ _ ha, by omega, same_put (s.trans st) hD, acc ++ [v], upd_same, ?_⟩
    have tt : SameT H4 (upd H4 D (.lst (acc ++ [v]))) := SameT.put (st _ _ ha) (fun _ z => by cases z)
    rw [take_snoc hd']
    exact Paired.snoc (pr_mono (fun a b q => mono _ _ _ _ ((sameT st).trans tt) q) pr) (mono _ _ _ _ tt r)
  · rintro H ⟨s, acc, ha, pr⟩
    rw [← hn, List.take_length] at pr
    exact hd H acc s ha pr
/-- a dict comprehension by a walk -/
theorem dc_it (w : Walk J n G Y) {g : TG} {tt : TT} {tk tv : TE} {vs : List Nat} {σ : L2.St} {H1 : Hp} {D : Addr} {Qd : Hp → Prop} (Pv : Nat → Hp → Prop) (h0 : Pv 0 (upd H1 D (.dK []))) (hG : ∀ i H, i ≤ n → Pv i H → G H)
    (hs : ∀ i x H H', i < n → Pv i H → Y i H x H' → g x (wipe σ vs) H' fun σ2 H2 => wipe σ2 vs = wipe σ vs ∧ tt σ2 H2 fun b H3 =>
      if b = true then tk σ2 H3 fun y H4 => tv σ2 H4 fun z H5 => ∃ kvs k, y = kV k ∧ H5 D = some (.dK kvs) ∧ kvs.length < sizeLine ∧ Pv (i + 1) (upd H5 D (.dK (putK kvs k z))) else Pv (i + 1) H3) (hd : ∀ H, Pv n H → Qd H) :
    ∃ W : Nat → Nat → Hp → Prop, (∃ m, W 0 m (upd H1 D (.dK []))) ∧ ∀ i m H, W i m H →
      (J.stop i H ∧ Qd H) ∨ (J.go i H ∧ ∃ Nx : Hp → Prop, (∀ H', Nx H' → ∃ m', m' < m ∧ W (i + 1) m' H') ∧ ∀ x H', J.yld i H x H' → g x (wipe σ vs) H' fun σ2 H2 => wipe σ2 vs = wipe σ vs ∧ tt σ2 H2 fun b H3 =>
        if b = true then tk σ2 H3 fun y H4 => tv σ2 H4 fun z H5 => ∃ kvs k, y = kV k ∧ H5 D = some (.dK kvs) ∧ kvs.length < sizeLine ∧ Nx (upd H5 D (.dK (putK kvs k z))) else Nx H3) := by
  refine ⟨fun i m H => m = n - i ∧ i ≤ n ∧ Pv i H, ⟨n, by simp, Nat.zero_le _, h0⟩, fun i m H hw => ?_⟩
  obtain ⟨em, hi, p⟩ := hw
  have gg := hG i H hi p
  rcases Nat.lt_or_ge i n with hlt | hge
  · refine .inr ⟨w.goes i H hlt gg, Pv (i + 1), fun H' p' => ⟨n - (i + 1), by omega, rfl, hlt, p'⟩, fun x H' y => ?_⟩
    exact hs i x H H' hlt p (w.yields i H x H' hlt gg y)
  · have e : i = n := by omega
    rw [e] at p ⊢
    exact .inl ⟨w.stops H gg, hd H p⟩
/-- new keys, one a turn: the dict's entries in this order -/
theorem dc_rel (w : Walk J n G Y) {g : TG} {tt : TT} {tk tv : TE} {vs : List Nat} {σ : L2.St} {H1 : Hp} {D : Addr} {Qd : Hp → Prop} (data : List α) (key : α → Key) (hn : data.length = n) (hz : n ≤ sizeLine) (hu : (data.map key).Nodup) (R : Hp → V → α → Prop)
    (mono : ∀ H H' v d, SameT H H' → R H v d → R H' v d) (hD : H1 D = none) (hG : ∀ H, Same H1 H → G H)
    (hs : ∀ i d x H H', data[i]? = some d → Same H1 H → Y i H x H' → Same H H' ∧ ∀ (k : V → V → Hp → Prop) (z : Hp → Prop), (∀ y H4, Same H' H4 → R H4 y d → k (kV (key d)) y H4) →
      g x (wipe σ vs) H' fun σ2 H2 => wipe σ2 vs = wipe σ vs ∧ tt σ2 H2 fun b H3 => if b = true then tk σ2 H3 fun a H4 => tv σ2 H4 fun y H5 => k a y H5 else z H3)
    (hd : ∀ H acc, Same H1 H → H D = some (.dK acc) → Paired (fun kv d => kv.1 = key d ∧ R H kv.2 d) acc data → Qd H) :
    ∃ W : Nat → Nat → Hp → Prop, (∃ m, W 0 m (upd H1 D (.dK []))) ∧ ∀ i m H, W i m H →
      (J.stop i H ∧ Qd H) ∨ (J.go i H ∧ ∃ Nx : Hp → Prop, (∀ H', Nx H' → ∃ m', m' < m ∧ W (i + 1) m' H') ∧ ∀ x H', J.yld i H x H' → g x (wipe σ vs) H' fun σ2 H2 => wipe σ2 vs = wipe σ vs ∧ tt σ2 H2 fun b H3 =>
        if b = true then tk σ2 H3 fun y H4 => tv σ2 H4 fun z H5 => ∃ kvs k, y = kV k ∧ H5 D = some (.dK kvs) ∧ kvs.length < sizeLine ∧ Nx (upd H5 D (.dK (putK kvs k z))) else Nx H3) := by
  refine dc_it w (fun i H => Same H1 H ∧ ∃ acc, H D = some (.dK acc) ∧ Paired (fun kv d => kv.1 = key d ∧ R H kv.2 d) acc (data.take i)) ⟨same_new hD, [], upd_same, by rw [List.take_zero]; exact .nil⟩ (fun i H _ p => hG H p.1) ?_ ?_
  · rintro i x H H' hi ⟨s, acc, ha, pr⟩ y
    obtain ⟨d, hd'⟩ : ∃ d, data[i]? = some d := ⟨data[i]'(by omega), List.getElem?_eq_getElem (by omega)⟩
    obtain ⟨s1, go⟩ := hs i d x H H' hd' s y
    refine go (fun a v H4 => ∃ kvs k, a = kV k ∧ H4 D = some (.dK kvs) ∧ kvs.length < sizeLine ∧ _) _ fun v H4 s4 r => ?_
    have st : Same H H4 := s1.trans s4
    have la : acc.length = i := by rw [pr_len pr, List.length_take]; omega
    have fresh : valV acc (key d) = none := by
      cases e : valV acc (key d) with
      | none => rfl
      | some v0 =>
        exfalso
        have hk := valV_in e
        rw [List.mem_map] at hk
        obtain ⟨kv, hkv, ek⟩ := hk
        obtain ⟨j, hj⟩ := List.getElem?_of_mem hkv
        obtain ⟨d2, hd2, e2, _⟩ := pr_at pr hj
        rw [List.getElem?_take] at hd2
        split at hd2
        · rename_i hji
          have a1 : (data.map key)[j]? = some (key d2) := by rw [List.getElem?_map, hd2]; rfl
          have a2 : (data.map key)[i]? = some (key d) := by rw [List.getElem?_map, hd']; rfl
          rw [← e2, ek] at a1
          have := nd_ix hu a1 a2
          omega
        · cases hd2
    refine ⟨acc, key d, rfl, st _ _ ha, by omega, same_put (s.trans st) hD, putK acc (key d) v, upd_same, ?_⟩
    have tt : SameT H4 (upd H4 D (.dK (putK acc (key d) v))) := SameT.put (st _ _ ha) (fun _ z => by cases z)
    rw [take_snoc hd']
    rw [putK_new _ fresh] at tt ⊢
    exact Paired.snoc (pr_mono (fun a b q => ⟨q.1, mono _ _ _ _ ((sameT st).trans tt) q.2⟩) pr) ⟨rfl, mono _ _ _ _ tt r⟩
  · rintro H ⟨s, acc, ha, pr⟩
    rw [← hn, List.take_length] at pr
    exact hd H acc s ha pr
end
/-- what such a dict says of a key -/
theorem dk_val {α : Type} {key : α → Key} {R : V → α → Prop} : ∀ {acc : List (Key × V)} {data : List α} {d : α}, Paired (fun kv d => kv.1 = key d ∧ R kv.2 d) acc data → d ∈ data → (data.map key).Nodup → ∃ v, valV acc (key d) = some v ∧ R v d
  | _, _, d, .nil, h, _ => by cases h
  | kv :: acc, e :: data, d, .cons f t, h, hu => by
    rw [List.map_cons, List.nodup_cons] at hu
    by_cases c : kv.1 = key d
    · refine ⟨kv.2, valV_pos c, ?_⟩
      rcases List.mem_cons.mp h with q | q
      · rw [q]
        exact f.2
      · exfalso
        rw [f.1] at c
        exact hu.1 (by rw [c]; exact List.mem_map_of_mem q)
    · have hm : d ∈ data := by
        rcases List.mem_cons.mp h with q | q
        · rw [q] at c
          exact absurd f.1 c
        · exact q
      obtain ⟨v, h1, h2⟩ := dk_val (d := d) t hm hu.2
      exact ⟨v, (valV_neg c).trans h1, h2⟩
end Tm
set_option maxRecDepth 100000
set_option maxHeartbeats 4000000
/-! set(a tuple of unlike texts), and how many they are. -/
namespace Tm
open PySem PySem.Spec PyProof.Rows
/-- the new set, still empty -/
def emptySet (led : Bool) : Obj := ⟨.type "set", none, .set #[] 0 (.fresh 0 0 led), #[]⟩
section
variable {prog : Program} {w : World} {A : Around} {I S : Addr} {fp wr : List Addr} {G : Array GenState → Array GenState → Prop} {n : Nat} {Y : Nat → Value → Prop} {St : Nat → Shared → Prop}
theorem setOf_keep {h h' : Heap} {Z : Str → Bool} {m : Nat} (x : h.SetOf (PySem.strKind prog w) S Z m) (k : ∀ o, h.get? S = some o → h'.get? S = some o) : h'.SetOf (PySem.strKind prog w) S Z m := by
  obtain ⟨o, es, ep, t, e, r⟩ := x
  exact ⟨o, es, ep, t, k o e, r⟩
/-- each turn puts one more text into it -/
theorem fill (W : WalksS prog w A.in1 I fp wr G n Y St) (out : S ∉ fp) (xs : List Str) (ud : xs.Nodup) (many : xs.length = n) (few : n + 1 < scanBound) (txt : ∀ i v, Y i v → ∃ t, v = .str (xs.getD i Str.empty) t) {R : Result → Shared → Prop} (m : Nat) :
    ∀ (i : Nat) (s : Shared), i + m = n → St i s → s.heap.SetOf (PySem.strKind prog w) S (fun z => decide (z ∈ xs.take i)) i →
      (∀ t, Moved (S :: wr) G s t → t.heap.SetOf (PySem.strKind prog w) S (fun z => decide (z ∈ xs.take n)) n → R (.ok (.ret .none)) t) → codeAny (model prog w) A (.builtin "set.update.loop" ⟨[.ref S, .ref I], []⟩) R s := by
  have nw : S ∉ wr := fun q => out (W.sub _ q)
  have sb : ∀ b ∈ wr, b ∈ S :: wr := fun b q => .tail _ q
  have qt := PyProof.Rows.F.plain_set_update_loop
  induction m with
  | zero =>
    intro i s e st hs fin
    obtain rfl : i = n := e
    refine codeAny_builtin PyProof.Rows.F.entry_set_update_loop (Around.under_plainId qt _ ▸ ?_)
    refine wpAny_bind (m := pyNext (.ref I)) (W.done s _ _ st fun t mv => ?_)
    show wpAny _ A.in1 (ret Value.none) _ _ t
    exact wpAny_pure (fin t (mv.mono sb) (setOf_keep hs fun o => mv.heap S o nw))
  | succ m more =>
    intro i s e st hs fin
    have lt : i < n := by omega
    refine codeAny_builtin PyProof.Rows.F.entry_set_update_loop (Around.under_plainId qt _ ▸ ?_)
    refine wpAny_bind (m := pyNext (.ref I)) (W.item i s _ _ lt st fun v t yv st1 mv => ?_)
    obtain ⟨tk, rfl⟩ := txt i v yv
    have here : xs[i]? = some (xs.getD i Str.empty) := by
      rw [List.getElem?_eq_getElem (by omega : i < xs.length), List.getD_eq_getElem?_getD, List.getElem?_eq_getElem (by omega : i < xs.length)]
      rfl
    have hs1 := setOf_keep hs fun o => mv.heap S o nw
    show wpAny _ A.in1 (holding [Value.str (xs.getD i Str.empty) tk] (setAdd S (.str (xs.getD i Str.empty) tk)) >>= _) _ _ t
    unfold setAdd
    refine wpAny_bind (wpAny_holding (wpAny_holding (wpAny_bind ((PySem.strKind prog w).pyHash (k := xs.getD i Str.empty) (strKind_is _ _ _ _) ?_))))
    refine wpAny_setAddHashed_of (knd := PySem.strKind prog w) (s := { t with toks := t.toks + 1 }) (strKind_is _ _ _ _) rfl hs1 (by omega) fun h2 but hs2 => wpAny_pure ⟨plainId_quiet qt _, ?_⟩
    have fresh : xs.getD i Str.empty ∉ xs.take i := fun q => by
      obtain ⟨j, hj⟩ := List.getElem?_of_mem q
      rw [List.getElem?_take] at hj
      split at hj
      · have := L2.nd_ix ud hj here
        omega
      · cases hj
    refine more (i + 1) _ (by omega) (W.frame _ t _ _ st1 (Nat.le_succ _) fun b hb o q => ?_) (PyProof.Rows.SetOf_congr hs2 (fun z => ?_) (by rw [decide_eq_false fresh] <;> rfl)) fun u mv2 hu => fin u (Moved.trans W.gtrans ((mv.mono sb).then_heap (Nat.le_succ _) fun b o nb q => ?_) mv2) hu
    · rw [but.2 b (fun c : b = S => out (c ▸ hb))]
      exact q
    · rw [take_snoc here, ← Bool.decide_or]
      exact decide_eq_decide.mpr (by rw [List.mem_append, List.mem_singleton])
    · rw [but.2 b (fun c : b = S => nb (c ▸ List.mem_cons_self))]
      exact q
end
section
variable {prog : Program} {w : World} {A : Around} {E : Value → Shared → Prop} {s : Shared} {l : Addr} {its : Array Value} {xs : List Str}
/-- all that stood stands, and the texts lie in the set at S -/
def Made (prog : Program) (w : World) (s : Shared) (xs : List Str) (h : Heap) : Prop :=
  h.SetOf (PySem.strKind prog w) s.heap.objs.size (fun z => decide (z ∈ xs)) xs.length ∧ ∀ b o, b < s.heap.objs.size → s.heap.get? b = some o → h.get? b = some o
theorem set_texts (calm : A.handled = none) (tup : s.heap.IsTuple l its) (are : PyProof.Rows.StrsAre its.toList xs) (ud : xs.Nodup) (few : xs.length + 1 < scanBound) {Q : Value → Shared → Prop}
    (q : ∀ h tk, Made prog w s xs h → Q (.ref s.heap.objs.size) { s with heap := h, toks := tk }) : wpAny (model prog w) A (call (.type "set") [.ref l]) Q E s := by
  have sz : xs.length = its.size := (StrsAre.len_eq are).symm.trans Array.length_toList
  obtain ⟨_, _, f1⟩ := PySem.F.called_set.mro
  have f2 := PySem.F.called_set.made
  have f3 := PySem.F.called_set.sub
  have f4 := PySem.F.called_set.notType
  have f5 := PySem.F.called_set.canCreate
  have f6 := PySem.F.typeCall_set_1 (.ref l)
  refine wpAny_call (codeAny_of_tree ?_)
  show wpAny _ _ (callAny (.type "set") _) _ _ _
  refine wpAny_pure ⟨Code.quiet_builtin _ (by decide +kernel), codeAny_builtin PySem.F.entry_type_call (Around.under_plain (weight_type_call_type "set" [.ref l] []) rfl ▸ ?_)⟩
  repeat any_goals (first | assumption | wp_step)
  refine codeAny_mono (code_set_new_1 (.ref l) (E := E) (Q₁ := fun ob t => ∃ led, ob = .ref s.heap.objs.size ∧ t = { s with heap := s.heap.push (emptySet led) }) fun led => ⟨led, rfl, rfl⟩) fun r t hr => ?_
  match r, hr with
  | .error _, hr => exact hr
  | .ok .next, hr => exact hr.elim
  | .ok .brk, hr => exact hr.elim
  | .ok .cont, hr => exact hr.elim
  | .ok (.ret ob), hr =>
    obtain ⟨led, rfl, rfl⟩ := hr
    have at_ : (s.heap.push (emptySet led)).get? s.heap.objs.size = some (emptySet led) := Heap.get?_push_size _ rfl
    have ty : Shared.TypeIs { s with heap := s.heap.push (emptySet led) } (.ref s.heap.objs.size) "set" := ⟨_, at_, rfl⟩
    have g1 := PySem.F.called_set.init.lookup
    have g2 := PySem.F.called_set.init.bind (.ref s.heap.objs.size)
    repeat any_goals (first | assumption | wp_step)
    refine codeAny_mono (codeAny_call_builtin (R := wants (fun r t => r = .none ∧ ∃ h tk, t = { s with heap := h, toks := tk } ∧ Made prog w s xs h) E) PySem.F.called_set.init.plain PySem.F.entry_set_init (check_set_init_1 ty ?_)) fun r t hr => ?_
    · obtain ⟨⟨oc, od, da, sl⟩, ho, hc, nl, hd⟩ := tup
      simp only at hc hd
      subst hc hd
      have ho1 : (s.heap.push (emptySet led)).get? l = some ⟨.type "tuple", od, .seq its nl, sl⟩ := Heap.get?_push_of_some _ ho
      have t1 : (s.heap.push (emptySet led)).IsTuple l its := ⟨_, ho1, rfl, nl, rfl⟩
      have k1 := PySem.F.sub_tuple_set
      have k2 := PySem.F.sub_tuple_frozenset
      have k3 : (Value.type "tuple" == Value.type "dict") = false := by decide
      unfold Builtin.«set.__init__» noKeywords Builtin.Frozenset.updateFrom
      generalize hPI : pyIter = PI
      wp_walk
      subst hPI
      refine wpAny_pyIter_tuple t1 (wpAny_bind (wpAny_runValue ?_))
      have below : l < s.heap.objs.size := Heap.lt_size ho
      have z1 : (s.heap.push (emptySet led)).objs.size = s.heap.objs.size + 1 := Heap.size_push ..
      have ne : l ≠ (s.heap.push (emptySet led)).objs.size := by rw [z1]; exact Nat.ne_of_lt (Nat.lt_succ_of_lt below)
      have away : s.heap.objs.size ∉ [(s.heap.push (emptySet led)).objs.size, l] := fun c => by
        rcases List.mem_cons.mp c with c | c
        · rw [z1] at c; exact absurd c (Nat.ne_of_lt (Nat.lt_succ_self _))
        · rw [List.mem_singleton] at c; exact absurd c (Nat.ne_of_gt below)
      refine fill ((Walks.tuple (A := A.in1.in1.in1) (by simp [calm]) _ l ne its).toS) away xs ud sz (by rw [← sz]; exact few) (fun i v hv => SS.strs_at are i v (by rw [Array.getElem?_toList]; exact hv)) its.size 0 _ (Nat.zero_add _)
        ⟨⟨_, Heap.get?_push_size _ rfl, rfl, rfl⟩, t1.push _⟩ ?_ ?_
      · exact PyProof.Rows.SetOf_congr ((PyProof.Rows.setObjOf_fresh (knd := PySem.strKind prog w) led).setOf (Heap.get?_push_of_some _ at_) (by unfold scanBound; omega)) (fun _ => rfl) rfl
      · rintro ⟨h', g', d', tk', os'⟩ mv hs'
        obtain rfl : g' = s.gens := mv.gens
        obtain rfl : d' = s.drawn := mv.drawn
        obtain rfl : os' = s.os := mv.os
        show wpAny _ _ _ _ _ _
        refine wpAny_pure ?_
        show wpAny _ _ (ret Value.none) _ _ _
        refine wpAny_pure ⟨rfl, h', tk', rfl, ?_, fun b o hb e => mv.heap b o (fun c => ?_) (Heap.get?_push_of_some _ (Heap.get?_push_of_some _ e))⟩
        · rw [← sz, List.take_length] at hs'
          exact hs'
        · rcases List.mem_cons.mp c with c | c
          · exact absurd c (Nat.ne_of_lt hb)
          · rw [List.mem_singleton, z1] at c
            exact absurd c (Nat.ne_of_lt (Nat.lt_succ_of_lt hb))
    · match r, hr with
      | .error _, hr => exact hr
      | .ok .next, hr => exact hr.elim
      | .ok .brk, hr => exact hr.elim
      | .ok .cont, hr => exact hr.elim
      | .ok (.ret u), hr =>
        obtain ⟨rfl, h', tk, rfl, md⟩ := hr
        repeat any_goals (first | assumption | wp_step)
        exact q _ _ md
end
end Tm
namespace Tm
open PySem PySem.Spec PyProof.Rows L2
/-- len(set(xs)), xs a tuple of unlike texts -/
def tLenSetS (K : PySem.W.Frag) (ta : TE) : TE := fun σ H Q => ta σ H fun x H1 => ∃ l, ∃ xs : List Str, x = .ref l ∧ SqT K H1 l (xs.map V.str) ∧ xs.Nodup ∧ xs.length + 1 < 4096 ∧ Q (.int xs.length) H1
section
variable {X : Cx}
theorem pe_lenSetS {a : Expr} {ta : TE} {p p2 q pos : Pos} (hc : X.calm = true) (g1 : Gl X "len") (m1 : X.mg "len" = none) (g2 : Gl X "set") (m2 : X.mg "set" = none) (ha : PE X a ta)
    (na : starEach [a] X.env = (false, eval a X.env) :: starEach [] X.env := by rfl) : PE X (.Call (.Name "len" p) [.Call (.Name "set" p2) [a] [] q] [] pos) (tLenSetS X.K ta) := by
  refine ⟨fun pins s σ H Q I h => ?_⟩
  refine Call_ (ld_blt I g1 m1 boot_len (PyProof.Rows.callWith_builtin1 (PyProof.Rows.args_cons ?_ rfl) rfl rfl))
  refine Call_ (ld_blt I g2 m2 boot_set (PyProof.Rows.callWith_type1 (PyProof.Rows.args_cons ?_ na) na rfl))
  refine thn (ha.run pins s σ H _ I h) fun v s1 ⟨x, H1, I1, r1, l, xs, ex, hq, ud, few, q1⟩ => PyProof.Rows.args_nil ?_
  subst ex
  cases r1
  obtain ⟨its, r, pl, _⟩ := I1.tuple hq
  refine set_texts (I1.ok.hd hc) pl (by simpa using strsAre_of r) ud few fun h' tk md => PyProof.Rows.args_nil ?_
  obtain ⟨⟨o, es, ep, t, ho, hex, hd, _, _, _, hf, hn⟩, hk⟩ := md
  have I2 : Inv X pins σ H1 { s1 with heap := h', toks := tk } := I1.kept fun b o e => hk b o (Heap.lt_size e) e
  exact call_len_set ho hex hd hf (by rw [hn] <;> omega) ⟨.int xs.length, H1, I2.tok _, ⟨_, by rw [hn]⟩, q1⟩
end
end Tm
set_option maxRecDepth 100000
set_option maxHeartbeats 4000000
/-! max(a list of ints, default = d); list of a text. -/
namespace Tm
open PySem PySem.Spec PyProof.Rows
theorem ints_len : ∀ {us : List Value} {ns : List Int}, IntsAre us ns → us.length = ns.length
  | _, _, .nil => rfl
  | _, _, .cons _ _ h => congrArg Nat.succ (ints_len h)
theorem args_max_d (a d : Value) : argsOk "max" ⟨[a], [(Str.ofString "default", d)]⟩ := by unfold argsOk; kernel_rfl
theorem bind_max_d (d : Value) : Builtin.Builtins.bindParams "max" ["key", "default"] 0 ⟨[], [(Str.ofString "default", d)]⟩ = pure [none, some d] := by kernel_rfl
section
variable {prog : Program} {w : World} {A : Around} {I S : Addr} {fp wr : List Addr} {G : Array GenState → Array GenState → Prop} {n : Nat} {Y : Nat → Value → Prop} {St : Nat → Shared → Prop}
/-- the best of the first i, twice -/
def Best (Y : Nat → Value → Prop) (val : Nat → Int) : Nat → List Value → Prop
  | 0, b => b = []
  | i + 1, b => ∃ j v, j ≤ i ∧ Y j v ∧ b = [v, v] ∧ ∀ k, k ≤ i → val k ≤ val j
theorem max_turns (W : WalksS prog w A.in1 I fp wr G n Y St) (out : S ∉ fp) (val : Nat → Int) (num : ∀ i v, Y i v → ∃ t, v = .int (val i) t) (d : Value) {R : Result → Shared → Prop} (m : Nat) :
    ∀ (i : Nat) (s : Shared) (b : List Value) (c : Nat), i + m = n → St i s → s.heap.get? S = some ⟨.type "list", none, .seq b.toArray c, #[]⟩ → Best Y val i b →
      (∀ t b, Moved (S :: wr) G s t → Best Y val n b → R (.ok (.ret (b.headD d))) t) → codeAny (model prog w) A (.builtin "max.loop" ⟨[.ref I, .none, .ref S], [("default", d)]⟩) R s := by
  have nw : S ∉ wr := fun q => out (W.sub _ q)
  have sb : ∀ b ∈ wr, b ∈ S :: wr := fun b q => .tail _ q
  have qt := F.plain_max_loop
  have off : ∀ {b : Addr}, b ∉ S :: wr → S ≠ b := fun q e => q (e ▸ List.mem_cons_self)
  have name : (toString "max" ++ toString ".loop" : String) = "max.loop" := by decide
  induction m with
  | zero =>
    intro i s b c e st hs bs fin
    obtain rfl : i = n := e
    refine codeAny_builtin F.entry_max_loop (Around.under_plainId qt _ ▸ ?_)
    refine wpAny_bind (m := seqItems? (.ref S)) (wpAny_seqItems hs rfl ?_)
    show wpAny _ A.in1 (tryCatch (pyNext (.ref I)) _ >>= _) _ _ s
    refine wpAny_bind (wpAny_tryCatch (W.done s _ _ st fun t mv => ?_))
    have hs1 := mv.heap S _ nw hs
    match i, bs with
    | 0, bs =>
      obtain rfl : b = [] := bs
      show wpAny _ A.in1 (rule _ >>= fun _ => ret d) _ _ t
      exact wpAny_bind (wpAny_rule (wpAny_pure (fin t [] (mv.mono sb) rfl)))
    | i + 1, bs =>
      obtain ⟨j, v, hj, yv, rfl, mx⟩ := bs
      show wpAny _ A.in1 (updateSeq S (fun _ => #[]) >>= _) _ _ t
      refine wpAny_bind (wpAny_updateSeq hs1 rfl (wpAny_bind (wpAny_letGo (wpAny_pure ?_))))
      exact fin _ [v, v] ((mv.mono sb).then_heap (tk := t.toks) (Nat.le_refl _) fun b o nb q => (Heap.get?_update_other _ _ (off nb)).trans q) ⟨j, v, hj, yv, rfl, mx⟩
  | succ m more =>
    intro i s b c e st hs bs fin
    have lt : i < n := by omega
    refine codeAny_builtin F.entry_max_loop (Around.under_plainId qt _ ▸ ?_)
    refine wpAny_bind (m := seqItems? (.ref S)) (wpAny_seqItems hs rfl ?_)
    show wpAny _ A.in1 (tryCatch (pyNext (.ref I)) _ >>= _) _ _ s
    refine wpAny_bind (wpAny_tryCatch (W.item i s _ _ lt st fun v t yv st1 mv => ?_))
    have hs1 := mv.heap S _ nw hs
    match i, bs with
    | 0, bs =>
      obtain rfl : b = [] := bs
      show wpAny _ A.in1 (updateSeq S (fun _ => #[v, v]) >>= _) _ _ t
      refine wpAny_bind (wpAny_updateSeq hs1 rfl ?_)
      rw [name]
      refine wpAny_pure ⟨plainId_quiet qt _, more 1 _ [v, v] _ (by omega) (W.frame _ t _ t.toks st1 (Nat.le_refl _) fun b hb o q => ?_) (Heap.get?_update_self _ hs1 rfl) ⟨0, v, Nat.le_refl _, yv, rfl, fun k hk => ?_⟩ fun u b2 mv2 bs2 => ?_⟩
      · exact (Heap.get?_update_other _ _ (fun x : S = b => out (x ▸ hb))).trans q
      · rw [Nat.le_zero.mp hk]
        exact Int.le_refl _
      · exact fin u b2 (Moved.trans W.gtrans ((mv.mono sb).then_heap (Nat.le_refl _) fun b o nb q => (Heap.get?_update_other _ _ (off nb)).trans q) mv2) bs2
    | i + 1, bs =>
      obtain ⟨j, vb, hj, yb, rfl, mx⟩ := bs
      show wpAny _ A.in1 (tryCatch (holding [v, v] (richCompare .Gt v vb >>= _)) _ >>= _) _ _ t
      refine wpAny_bind (wpAny_tryCatch (wpAny_holding (wpAny_bind (CmpOf.ints_gt val num (i + 1) j v vb _ _ _ yv yb ?_))))
      refine wpAny_bind (wpAny_holding (wpAny_truthy_bool (wpAny_bind (wpAny_letGo (wpAny_pure ?_)))))
      by_cases more1 : val (i + 1) > val j
      · simp only [decide_eq_true more1, if_true]
        refine wpAny_bind (wpAny_updateSeq hs1 rfl (wpAny_bind (wpAny_letGo ?_)))
        rw [name]
        refine wpAny_pure ⟨plainId_quiet qt _, more (i + 2) _ [v, v] _ (by omega) (W.frame _ t _ t.toks st1 (Nat.le_refl _) fun b hb o q => ?_) (Heap.get?_update_self _ hs1 rfl) ⟨i + 1, v, Nat.le_refl _, yv, rfl, fun k hk => ?_⟩ fun u b2 mv2 bs2 => ?_⟩
        · exact (Heap.get?_update_other _ _ (fun x : S = b => out (x ▸ hb))).trans q
        · rcases Nat.lt_or_ge k (i + 1) with lk | gk
          · have := mx k (by omega)
            omega
          · rw [show k = i + 1 by omega]
            exact Int.le_refl _
        · exact fin u b2 (Moved.trans W.gtrans ((mv.mono sb).then_heap (Nat.le_refl _) fun b o nb q => (Heap.get?_update_other _ _ (off nb)).trans q) mv2) bs2
      · simp only [decide_eq_false more1, Bool.false_eq_true, if_false]
        refine wpAny_bind (wpAny_letGo ?_)
        rw [name]
        refine wpAny_pure ⟨plainId_quiet qt _, more (i + 2) _ [vb, vb] c (by omega) st1 hs1 ⟨j, vb, by omega, yb, rfl, fun k hk => ?_⟩ fun u b2 mv2 bs2 => fin u b2 (Moved.trans W.gtrans (mv.mono sb) mv2) bs2⟩
        rcases Nat.lt_or_ge k (i + 1) with lk | gk
        · exact mx k (by omega)
        · rw [show k = i + 1 by omega]
          omega
end
section
variable {prog : Program} {w : World} {A : Around} {E : Value → Shared → Prop} {s : Shared} {l : Addr} {its : List Value} {ns : List Int} {d : Value}
theorem max_dflt (calm : A.handled = none) (lst : s.heap.IsList l its.toArray) (are : IntsAre its ns) {Q : Value → Shared → Prop}
    (q : ∀ h tk v, (∀ b o, s.heap.get? b = some o → h.get? b = some o) → ((ns = [] ∧ v = d) ∨ ∃ m t, v = .int m t ∧ m ∈ ns ∧ ∀ y ∈ ns, y ≤ m) → Q v { s with heap := h, toks := tk }) :
    wpAny (model prog w) A (call (.builtin "max") [.ref l] [(Str.ofString "default", d)]) Q E s := by
  have hlt : l < s.heap.objs.size := by
    obtain ⟨_, e, _⟩ := lst
    exact Heap.lt_size e
  refine wpAny_call (codeAny_call_builtin F.plain_max F.entry_max ?_)
  have ok := args_max_d (.ref l) d
  have main : wpAny (model prog w) A.in1 (Builtin.«max» ⟨[.ref l], [(Str.ofString "default", d)]⟩) (fun fin s' => match fin with
      | .done f => (match (Except.ok f : Result) with | .ok (.ret v) => Q v s' | .ok _ => False | .error e => E e s')
      | .again c' => c'.quiet = true ∧ codeAny (model prog w) A c' (fun r s' => match r with | .ok (.ret v) => Q v s' | .ok _ => False | .error e => E e s') s') E s := by
    show wpAny _ A.in1 (Builtin.Builtins.bindParams "max" ["key", "default"] 0 ⟨[], [(Str.ofString "default", d)]⟩ >>= _) _ _ s
    refine wpAny_bind (wpAny_of_eq (bind_max_d d) (wpAny_bind (wpAny_pure (wpAny_bind (wpAny_pyIter_list lst (wpAny_bind (wpAny_newObj_type ?_)))))))
    rw [show (toString "max" ++ toString ".loop" : String) = "max.loop" by decide]
    have z1 : (s.heap.push { cls := .type "list_iterator", data := .fields #[.ref l, .int 0 0] }).objs.size = s.heap.objs.size + 1 := Heap.size_push ..
    have ne : l ≠ s.heap.objs.size := Nat.ne_of_lt hlt
    have num : ∀ (i : Nat) (v : Value), its.toArray[i]? = some v → ∃ t, v = .int (ns.getD i 0) t := fun i v e => PyProof.Rows.IntsAre.int_at are i v (by simpa using e)
    have many : its.length = ns.length := ints_len are
    refine wpAny_pure ⟨plainId_quiet F.plain_max_loop _, max_turns (d := d) ((Walks.list (A := A.in1) (by simpa using calm) _ l ne its.toArray).toS) (fun c => ?_) (fun i => ns.getD i 0) num its.toArray.size 0 _ [] _ (Nat.zero_add _)
      ⟨⟨_, Heap.get?_push_of_some _ (Heap.get?_push_size _ rfl), rfl, rfl⟩, (lst.push _).push _⟩ (Heap.get?_push_size _ rfl) rfl fun t b mv bs => ?_⟩
    · rcases List.mem_cons.mp c with c | c
      · rw [z1] at c
        exact absurd c (Nat.ne_of_gt (Nat.lt_succ_self _))
      · rw [List.mem_singleton, z1] at c
        exact absurd c (Nat.ne_of_gt (Nat.lt_succ_of_lt hlt))
    · obtain ⟨h', g', d', tk', os'⟩ := t
      obtain rfl : g' = s.gens := mv.gens
      obtain rfl : d' = s.drawn := mv.drawn
      obtain rfl : os' = s.os := mv.os
      refine q h' tk' _ (fun b o e => mv.heap b o (fun c => ?_) (Heap.get?_push_of_some _ (Heap.get?_push_of_some _ e))) ?_
      · have lb := Heap.lt_size e
        rcases List.mem_cons.mp c with c | c
        · rw [c, z1] at lb
          exact absurd lb (Nat.not_lt.mpr (Nat.le_succ _))
        · rw [List.mem_singleton] at c
          rw [c] at lb
          exact absurd lb (Nat.lt_irrefl _)
      · rw [show its.toArray.size = ns.length by simpa using many] at bs
        match ns, bs, num, many with
        | [], bs, _, _ =>
          obtain rfl : b = [] := bs
          exact .inl ⟨rfl, rfl⟩
        | n1 :: ns, bs, num, many =>
          obtain ⟨j, v, hj, yv, rfl, mx⟩ := bs
          obtain ⟨t, rfl⟩ := num j v yv
          refine .inr ⟨(n1 :: ns).getD j 0, t, rfl, ?_, fun y hy => ?_⟩
          · rw [List.getD_eq_getElem?_getD, List.getElem?_eq_getElem (by simp; omega)]
            exact List.getElem_mem _
          · obtain ⟨k, hk⟩ := List.getElem?_of_mem hy
            have lk : k < (n1 :: ns).length := (List.getElem?_eq_some_iff.mp hk).1
            have := mx k (by simp at lk; omega)
            simp only [List.getD_eq_getElem?_getD, hk] at this ⊢
            exact this
  simp only [checkBuiltinCall, F.kind_max]
  cases hsig : Manifest.signature? "max" with
  | none => exact wpAny_pure main
  | some sg =>
    simp only [argsOk, hsig] at ok
    exact wpAny_of_eq ok main
end
end Tm
namespace Tm
open PySem PySem.Spec PyProof.Rows L2
section
variable {X : Cx}
/-- max(ns, default = d) -/
def rMaxDf (K : PySem.W.Frag) : List V → List V → Hp → VK → Prop := fun vs zs H Q => ∃ (a : Addr) (ns : List Int) (d : V), vs = [.ref a] ∧ zs = [d] ∧ SqL K H a (ns.map V.int) ∧ (ns = [] → Q d H) ∧ ∀ m, m ∈ ns → (∀ y ∈ ns, y ≤ m) → Q (.int m) H
theorem cr_maxd (hc : X.calm = true) : CallRK X (.builtin "max") [Str.ofString "default"] (rMaxDf X.K) := by
  intro pins s σ H vs zs us ws Q I r rz h
  obtain ⟨a, ns, d, rfl, rfl, hs, q0, q1⟩ := h
  obtain ⟨its, rv, hl, _⟩ := I.list hs
  rw [Vals.ref1 r]
  obtain ⟨w1, rfl, e1⟩ := vals1 rz
  refine max_dflt (I.ok.hd hc) hl.isList rv.ints fun h tk v kept ans => ?_
  rcases ans with ⟨en, rfl⟩ | ⟨m, t, rfl, mm, mx⟩
  · exact ⟨d, H, I.kept kept, e1, q0 en⟩
  · exact ⟨.int m, H, I.kept kept, ⟨_, rfl⟩, q1 m mm mx⟩
theorem vals_by : ∀ {xs : List V} {us : List Value}, xs.length = us.length → (∀ (i : Nat) (x : V) (y : Value), xs[i]? = some x → us[i]? = some y → RelV x y) → Vals xs us
  | [], [], _, _ => .nil
  | x :: xs, u :: us, e, h => .cons (h 0 x u rfl rfl) (vals_by (Nat.succ.inj e) fun i a b p q => h (i + 1) a b p q)
/-- list(a text) -/
def rListStr : List V → Hp → VK → Prop := fun xs H Q => ∃ z : Str, xs = [.str z] ∧ z.cps.size ≤ 1000 ∧ ∀ l, H l = none → Q (.ref l) (upd H l (.lst (z.cps.toList.map fun c => V.str ⟨#[c]⟩)))
theorem call_list_strS (hc : X.calm = true) : CallR X (.type "list") rListStr := by
  intro pins s σ H xs us Q I r h
  obtain ⟨z, rfl, hz, q⟩ := h
  obtain ⟨v, rfl, t, rfl⟩ := vals1 r
  have z1 : z.cps.size ≤ sizeLine := by
    rw [sizeLine_eq]
    omega
  refine PySem.call_list_str (I.ok.hd hc) z t (fun h' tk acc c kept at_ its => ?_) z1
  have vs : Vals (z.cps.toList.map fun c => V.str ⟨#[c]⟩) acc.toList := by
    obtain ⟨n1, n2⟩ := its
    refine vals_by (by simp [n1]) fun i x y hx hy => ?_
    rw [List.getElem?_map] at hx
    obtain ⟨c, u, e1, e2⟩ := n2 i y (by simpa using hy)
    rw [Array.getElem?_toList, e1] at hx
    cases hx
    exact ⟨u, e2⟩
  exact ⟨.ref _, upd H s.heap.objs.size (.lst (z.cps.toList.map fun c => V.str ⟨#[c]⟩)), I.laid (t' := tk) kept (Nat.le_refl _) ⟨by simpa using z1, acc.toList, c, vs, by simpa using at_⟩, rfl, q _ (I.hok.fresh (Nat.le_refl _))⟩
end
end Tm
set_option maxRecDepth 100000
set_option maxHeartbeats 4000000
/-! Rows of a sheet, and how they lie in the heap. -/
namespace Tm
open PySem PySem.Spec PyProof.Rows L2

inductive Lay where
  | now
  | behind (xs : List Str)
  | beside (x : Str)
  | split (x : Str) (k : Int)
structure Row where
  name : Str
  lay : Lay
  need : Int
def NameOk (z : Str) : Prop := 1 ≤ z.length ∧ z.length ≤ 8 ∧ ∀ c ∈ z.cps.toList, 97 ≤ c ∧ c ≤ 122
def NeedOk (n : Int) : Prop := 0 ≤ n ∧ n ≤ 12
def Lay.Ok : Lay → Prop
  | .now => True
  | .behind xs => xs ≠ [] ∧ xs.length < 1000 ∧ xs.Nodup ∧ ∀ x ∈ xs, NameOk x
  | .beside x => NameOk x
  | .split x k => NameOk x ∧ 1 ≤ k ∧ k ≤ 11
def Lay.anchors : Lay → List Str
  | .now => []
  | .behind xs => xs
  | .beside x => [x]
  | .split x _ => [x]
structure Row.Ok (r : Row) : Prop where
  name : NameOk r.name
  lay : r.lay.Ok
  need : NeedOk r.need
def names (rows : List Row) : List Str := rows.map Row.name
/-- names unlike, anchors earlier -/
structure Named (rows : List Row) : Prop where
  ok : ∀ r ∈ rows, r.Ok
  unlike : (names rows).Nodup
  back : ∀ (i : Nat) r, rows[i]? = some r → ∀ x ∈ r.lay.anchors, x ∈ (names rows).take i

def LayAt (H : Hp) (v : V) : Lay → Prop
  | .now => ∃ a, v = .ref a ∧ H a = some (.tup [.str "now"])
  | .behind xs => ∃ a b, v = .ref a ∧ H a = some (.tup [.str "behind", .ref b]) ∧ H b = some (.tup (xs.map V.str))
  | .beside x => ∃ a, v = .ref a ∧ H a = some (.tup [.str "beside", .str x])
  | .split x k => ∃ a, v = .ref a ∧ H a = some (.tup [.str "split", .str x, .int k])
def RowAt (H : Hp) (v : V) (r : Row) : Prop := ∃ a l, v = .ref a ∧ H a = some (.tup [.str r.name, l, .int r.need]) ∧ LayAt H l r.lay
theorem LayAt.mono {H H' : Hp} (s : SameT H H') : ∀ {v : V} {l : Lay}, LayAt H v l → LayAt H' v l
  | _, .now, ⟨a, e, h⟩ => ⟨a, e, s _ _ h⟩
  | _, .behind _, ⟨a, b, e, h, g⟩ => ⟨a, b, e, s _ _ h, s _ _ g⟩
  | _, .beside _, ⟨a, e, h⟩ => ⟨a, e, s _ _ h⟩
  | _, .split _ _, ⟨a, e, h⟩ => ⟨a, e, s _ _ h⟩
theorem RowAt.mono {H H' : Hp} (s : SameT H H') {v : V} {r : Row} : RowAt H v r → RowAt H' v r
  | ⟨a, l, e, h, g⟩ => ⟨a, l, e, s _ _ h, LayAt.mono s g⟩
/-- a list of rows -/
def RowsAt (H : Hp) (vs : List V) (rows : List Row) : Prop := Paired (fun v r => RowAt H v r) vs rows
theorem RowsAt.mono {H H' : Hp} (s : SameT H H') {vs : List V} {rows : List Row} (h : RowsAt H vs rows) : RowsAt H' vs rows := pr_mono (fun _ _ q => RowAt.mono s q) h

section
variable {K : PySem.W.Frag} {H : Hp} {Q : VK} {a p : Addr} {xs : List V}
theorem sqT (h : H a = some (.tup xs)) : SqT K H a xs := Or.inl (Or.inl h)
theorem sqL (h : H a = some (.lst xs)) : SqL K H a xs := Or.inl (Or.inl h)
theorem x_isi {x c : V} {t u : Value} {b : Bool} (ty : TyX K H x t) (cl : ClsV c u) (k : PySem.W.kitOne K t u = some b) (h : Q (.bl b) H) : rIsi K [x, c] H Q := ⟨x, c, t, u, b, rfl, cl, ty, k, h⟩
theorem x_isi_str {z : Str} (h : Q (.bl true) H) : rIsi K [.str z, .ty "str"] H Q := x_isi (.base (.str z)) (.ty _) (kit_ty (by decide +kernel)) h
theorem x_isi_int {i : Int} (h : Q (.bl true) H) : rIsi K [.int i, .ty "int"] H Q := x_isi (.base (.int i)) (.ty _) (kit_ty (by decide +kernel)) h
theorem x_isi_intB {i : Int} (h : Q (.bl false) H) : rIsi K [.int i, .ty "bool"] H Q := x_isi (.base (.int i)) (.ty _) (kit_ty (by decide +kernel)) h
theorem x_isi_tup (e : H a = some (.tup xs)) (h : Q (.bl true) H) : rIsi K [.ref a, .ty "tuple"] H Q := x_isi (.base (.tup e)) (.ty _) (kit_ty (by decide +kernel)) h
theorem x_isi_dict {kvs : List (Key × V)} (e : H a = some (.dK kvs)) (h : Q (.bl true) H) : rIsi K [.ref a, .ty "dict"] H Q := x_isi (.base (.dK e)) (.ty _) (kit_ty (by decide +kernel)) h
theorem x_all {bs : List Bool} (e : SqL K H a (bs.map V.bl)) (h : Q (.bl (bs.all id)) H) : rAll K [.ref a] H Q := ⟨a, bs, rfl, e, h⟩
theorem x_allT {bs : List V} (e : H a = some (.lst bs)) (t : ∀ v ∈ bs, v = .bl true) (h : Q (.bl true) H) : rAll K [.ref a] H Q := by
  have e2 : ∀ (bs : List V), (∀ v ∈ bs, v = .bl true) → bs = (List.replicate bs.length true).map V.bl ∧ (List.replicate bs.length true).all id = true := by
    intro bs
    induction bs with
    | nil => exact fun _ => ⟨rfl, rfl⟩
    | cons b bs ih =>
      intro t
      obtain ⟨h1, h2⟩ := ih fun v hv => t v (.tail _ hv)
      refine ⟨?_, h2⟩
      show b :: bs = .bl true :: _
      rw [← h1, t b (.head _)]
  obtain ⟨h1, h2⟩ := e2 bs t
  refine x_all (bs := List.replicate bs.length true) (by rw [← h1]; exact sqL e) ?_
  rw [h2]
  exact h
theorem x_st2 {i j : Str} {F : Str → Str → Prop} (h : F i j) : ∃ a b, V.str i = .str a ∧ V.str j = .str b ∧ F a b := ⟨i, j, rfl, rfl, h⟩
theorem x_lenSet {t : TE} {σ : L2.St} (h : t σ H fun x H1 => ∃ l, ∃ ys : List Str, x = .ref l ∧ SqT K H1 l (ys.map V.str) ∧ ys.Nodup ∧ ys.length + 1 < 4096 ∧ Q (.int ys.length) H1) : tLenSetS K t σ H Q := h
end
theorem a_le {c : Nat} (h : 97 ≤ c) : (!decide ((⟨#[c]⟩ : Str).cps.toList < ("a" : Str).cps.toList)) = true := by
  have e : ("a" : Str).cps.toList = [97] := by decide +kernel
  rw [e]
  show (!decide ([c] < [97])) = true
  have n : ¬ [c] < [97] := fun z => by
    cases z with
    | rel r => exact absurd r (by omega)
    | cons r => cases r
  rw [decide_eq_false n]
  rfl
theorem le_z {c : Nat} (h : c ≤ 122) : (!decide (("z" : Str).cps.toList < (⟨#[c]⟩ : Str).cps.toList)) = true := by
  have e : ("z" : Str).cps.toList = [122] := by decide +kernel
  rw [e]
  show (!decide ([122] < [c])) = true
  have n : ¬ [122] < [c] := fun z => by
    cases z with
    | rel r => exact absurd r (by omega)
    | cons r => cases r
  rw [decide_eq_false n]
  rfl
/-- what a pure def of the package promises: an answer, the heap only grown -/
def ans (v : V) (H : Hp) (Q : VK) : Prop := ∀ H', Same H H' → Q v H'
def spIsInt : Sp := fun vs H Q _ => ∃ i : Int, vs = [.int i] ∧ Q (.bl true) H
def spName : Sp := fun vs H Q _ => ∃ z : Str, vs = [.str z] ∧ NameOk z ∧ ans (.bl true) H Q
def spShare : Sp := fun vs H Q _ => ∃ i : Int, vs = [.int i] ∧ NeedOk i ∧ Q (.bl true) H
def spAnchors : Sp := fun vs H Q _ => ∃ (a : Addr) (xs : List Str), vs = [.ref a] ∧ H a = some (.tup (xs.map V.str)) ∧ (Lay.behind xs).Ok ∧ ans (.bl true) H Q
def spIsLay : Sp := fun vs H Q _ => ∃ (v : V) (l : Lay), vs = [v] ∧ LayAt H v l ∧ l.Ok ∧ ans (.bl true) H Q
def spIsLine : Sp := fun vs H Q _ => ∃ (v : V) (r : Row), vs = [v] ∧ RowAt H v r ∧ r.Ok ∧ ans (.bl true) H Q
def spAnchorsOf : Sp := fun vs H Q _ => ∃ (v : V) (l : Lay), vs = [v] ∧ LayAt H v l ∧ ∀ b H', Same H H' → H' b = some (.tup (l.anchors.map V.str)) → Q (.ref b) H'
def spCheckRows (K : PySem.W.Frag) : Sp := fun ws H Q _ => ∃ (a : Addr) (vs : List V) (rows : List Row), ws = [.ref a] ∧ H a = some (.lst vs) ∧ RowsAt H vs rows ∧ (∀ r ∈ rows, r.Ok) ∧ ∀ H', Same H H' → Q .non H'
def spCheckNames : Sp := fun ws H Q _ => ∃ (a : Addr) (vs : List V) (rows : List Row), ws = [.ref a] ∧ H a = some (.lst vs) ∧ RowsAt H vs rows ∧ rows.length < 1000 ∧ Named rows ∧ ∀ H', Same H H' → Q .non H'
def spCheckQuashed (K : PySem.W.Frag) : Sp := fun ws H Q _ => ∃ (q l : Addr) (gone all : List Str), ws = [.ref q, .ref l] ∧ SqT K H q (gone.map V.str) ∧ H l = some (.lst (all.map V.str)) ∧ gone.length < 1000 ∧ gone.Nodup ∧ (∀ x ∈ gone, x ∈ all) ∧ ∀ H', Same H H' → Q .non H'
section
variable {σ : L2.St} {H : Hp} {te : TE} {k : VK} {z : Hp → Prop}
theorem x_yes (h : te σ H k) : tYes σ H fun b H3 => if b = true then te σ H3 k else z H3 := by
  unfold tYes
  exact iteT h
theorem x_yes2 {tk tv : TE} {k : V → V → Hp → Prop} (h : tk σ H fun a H4 => tv σ H4 fun y H5 => k a y H5) : tYes σ H fun b H3 => if b = true then tk σ H3 fun a H4 => tv σ H4 fun y H5 => k a y H5 else z H3 := by
  unfold tYes
  exact iteT h
end
theorem x_nbt {A B : Prop} (h : B) : if (!true) = true then A else B := h
theorem x_nbf {A B : Prop} (h : A) : if (!false) = true then A else B := h
section
variable {K : PySem.W.Frag} {σ : L2.St} {H : Hp} {QG : L2.St → Hp → Prop} {t : TG} {u : TGs} {v : V} {r xs : List V} {a : Addr} {n : Nat}
theorem x_gTup {t : TGs} (hs : SqT K H a xs) (hl : xs.length = n) (h : t xs σ H QG) : gTup K n t (.ref a) σ H QG := ⟨a, xs, rfl, hs, hl, h⟩
theorem x_gCons (h : t v σ H fun σ' H' => u r σ' H' QG) : gCons t u (v :: r) σ H QG := ⟨v, r, rfl, h⟩
theorem x_gNil (h : QG σ H) : gNil [] σ H QG := ⟨rfl, h⟩
theorem x_isi2 {x c1 c2 : V} {tv u1 u2 : Value} {b : Bool} {tp : Addr} {Q : VK} (htp : H tp = some (.tup [c1, c2])) (ty : TyX K H x tv) (h1 : ClsV c1 u1) (h2 : ClsV c2 u2) (k : PySem.W.kitAny K tv [u1, u2] = some b) (h : Q (.bl b) H) : rIsiT K [x, .ref tp] H Q :=
  ⟨x, tp, [c1, c2], tv, [u1, u2], b, rfl, htp, .cons h1 (.cons h2 .nil), ty, k, h⟩
end
/-- a dict of texts, each True -/
def ent (xs : List Str) : List (Key × V) := xs.map fun x => (Sum.inr x, V.bl true)
theorem ent_len (xs : List Str) : (ent xs).length = xs.length := List.length_map ..
theorem ent_in {x : Str} : ∀ {xs : List Str}, x ∈ xs → valV (ent xs) (Sum.inr x) = some (.bl true)
  | y :: xs, h => by
    by_cases e : y = x
    · exact valV_pos (congrArg Sum.inr e)
    · refine (valV_neg fun z => e (Sum.inr.inj z)).trans (ent_in ?_)
      rcases List.mem_cons.mp h with q | q
      · exact absurd q.symm e
      · exact q
theorem ent_out {x : Str} : ∀ {xs : List Str}, x ∉ xs → valV (ent xs) (Sum.inr x) = none
  | [], _ => rfl
  | y :: xs, h => (valV_neg fun z => h (by rw [Sum.inr.inj z]; exact .head _)).trans (ent_out fun q => h (.tail _ q))
theorem ent_put {x : Str} {xs : List Str} (h : x ∉ xs) : putK (ent xs) (Sum.inr x) (.bl true) = ent (xs ++ [x]) := by
  rw [putK_new _ (ent_out h)]
  unfold ent
  rw [List.map_append]
  rfl
theorem not_before {α : Type} {l : List α} (ud : l.Nodup) {i : Nat} {x : α} (h : l[i]? = some x) : x ∉ l.take i := fun q => by
  obtain ⟨j, hj⟩ := List.getElem?_of_mem q
  rw [List.getElem?_take] at hj
  split at hj
  · have := L2.nd_ix ud hj h
    omega
  · cases hj
section
variable {H : Hp} {d : Addr} {kvs : List (Key × V)} {k : Str} {v : V} {F : Option V → Prop} {A B : Prop}
theorem x_dinY (hd : H d = some (.dK kvs)) (e : valV kvs (Sum.inr k) = some v) (h : F (some v)) : ∃ a o, V.ref d = .ref a ∧ DGet H a (.str k) o ∧ F o := ⟨d, _, rfl, by rw [← e]; exact DGet.k (k := Sum.inr k) hd, h⟩
theorem x_dinN (hd : H d = some (.dK kvs)) (e : valV kvs (Sum.inr k) = none) (h : F none) : ∃ a o, V.ref d = .ref a ∧ DGet H a (.str k) o ∧ F o := ⟨d, _, rfl, by rw [← e]; exact DGet.k (k := Sum.inr k) hd, h⟩
theorem i_sn (h : B) : if (none : Option V).isSome = true then A else B := h
theorem i_ss (h : A) : if (some v).isSome = true then A else B := h
theorem i_nsn (h : A) : if (!(none : Option V).isSome) = true then A else B := h
theorem i_nss (h : B) : if (!(some v).isSome) = true then A else B := h
end
theorem flat_str (ys : List Str) : (ys.map V.str).all flatV = true := by
  rw [List.all_map]
  exact List.all_eq_true.mpr fun _ _ => rfl
theorem inV_str {z : Str} : ∀ {ys : List Str}, inV (.str z) (ys.map V.str) = decide (z ∈ ys)
  | [] => rfl
  | y :: ys => by
    have ih := inV_str (z := z) (ys := ys)
    unfold inV at ih ⊢
    rw [List.map_cons, List.any_cons, ih]
    have e : eqV (.str y) (.str z) = decide (y = z) := by
      show (y == z) = _
      by_cases q : y = z
      · rw [q, decide_eq_true rfl]
        exact beq_self_eq_true z
      · rw [decide_eq_false q]
        exact beq_eq_false_iff_ne.mpr q
    rw [e, ← Bool.decide_or]
    exact decide_eq_decide.mpr (by rw [List.mem_cons, eq_comm (a := y)])
section
variable {K : PySem.W.Frag} {H : Hp} {Q : VK} {p : Addr} {z : Str} {ys : List Str}
theorem x_inL (hs : SqL K H p (ys.map V.str)) (hz : z ∈ ys) (h : Q (.bl true) H) : rIn K false (.str z) (.ref p) H Q := ⟨p, _, rfl, .inl hs, rfl, flat_str ys, by
  rw [inV_str, decide_eq_true hz]
  exact h⟩
theorem x_inT (hs : SqT K H p (ys.map V.str)) (h : Q (.bl (decide (z ∈ ys))) H) : rIn K false (.str z) (.ref p) H Q := ⟨p, _, rfl, .inr hs, rfl, flat_str ys, by
  rw [inV_str]
  exact h⟩
theorem x_ninL (hs : SqL K H p (ys.map V.str)) (h : Q (.bl (!decide (z ∈ ys))) H) : rIn K true (.str z) (.ref p) H Q := ⟨p, _, rfl, .inl hs, rfl, flat_str ys, by
  rw [inV_str]
  exact h⟩
end
theorem nat_sub_len {α : Type} [DecidableEq α] : ∀ {xs ys : List α}, xs.Nodup → (∀ x ∈ xs, x ∈ ys) → xs.length ≤ ys.length
  | [], _, _, _ => Nat.zero_le _
  | x :: xs, ys, ud, h => by
    rw [List.nodup_cons] at ud
    have hx := h x (.head _)
    have ih := nat_sub_len (xs := xs) (ys := ys.erase x) ud.2 fun z hz => (List.mem_erase_of_ne (fun (e : z = x) => ud.1 (by rw [← e]; exact hz))).mpr (h z (.tail _ hz))
    rw [List.length_erase_of_mem hx] at ih
    have := List.length_pos_of_mem hx
    rw [List.length_cons]
    omega
theorem len_le {n : Nat} (h : n ≤ 10000) : n ≤ sizeLine := by
  rw [sizeLine_eq]
  omega
end Tm
set_option maxRecDepth 100000
set_option maxHeartbeats 4000000
/-! sorted(a tuple of texts); tuples of K. -/
namespace Tm
open PySem PySem.Spec PyProof.Rows L2
section
variable {X : Cx}
def rSortedTS (K : PySem.W.Frag) : List V → Hp → VK → Prop := fun vs H Q => ∃ (a : Addr) (xs : List Str), vs = [V.ref a] ∧ SqT K H a (xs.map V.str) ∧ xs.length < 64 ∧
  ∀ (ys : List Str) (p : Addr), ys.Perm xs → H p = none → Q (.ref p) (upd H p (.lst (ys.map V.str)))
theorem cr_sortedTS : CallR X (.builtin "sorted") (rSortedTS X.K) := by
  intro pins s σ H vs us Q I r h
  obtain ⟨a, xs, rfl, hs, h64, q⟩ := h
  obtain ⟨its, rv, ⟨o, ho, hc, n, hd⟩, hz⟩ := I.tuple hs
  rw [Vals.ref1 r]
  have hlen0 := rv.length
  rw [List.length_map] at hlen0
  have hS := rv.strs
  refine Calls.call_function_entry PyProof.Rows.kind_sorted PyProof.Rows.plain_sorted PyProof.Rows.entry_sorted (PyProof.Rows.args_sorted1 _) ?_
  unfold Builtin.«sorted»
  refine wpAny_bind (m := checkCount "sorted" 1 1 _) (wpAny_pure ?_)
  refine wpAny_bind (wpAny_collect_seq a (.inr rfl) ho hc hd (fun h' kept => ?_) (by rw [List.size_toArray, ← hlen0]; simpa using hz))
  rw [show its.toArray.toList = its from rfl]
  refine wpAny_bind (wpAny_newList ?_)
  have at_ : (h'.push (seqObj "list" its.toArray 0)).get? h'.objs.size = some (seqObj "list" its.toArray 0) := Heap.get?_push_size _ rfl
  show wpAny _ _ _ _ _ { s with heap := h'.push (seqObj "list" its.toArray 0) }
  refine wpAny_bind (wpAny_holding (wpAny_call_entry PyProof.Rows.slot_list_sort ⟨_, at_, rfl⟩ PyProof.Rows.entry_list_sort
    (PyProof.Rows.list_sort_treeK PyProof.Rows.strKind_oneLt at_ hS.keysOf (fun v₁ v₂ rest e => PyProof.Rows.keyKind_strs (by rw [← e]; exact hS)) (by rw [← hlen0]; exact h64) fun st' a1 a2 => ⟨_, rfl, ?_⟩) (PyProof.Rows.args_list_sort _)))
  obtain ⟨ys, h1, h2, h3⟩ := PyProof.Rows.sorted_out_str hS a1 a2
  refine wpAny_pure ⟨_, rfl, ?_⟩
  obtain ⟨ep, he'⟩ := PyProof.Rows.sortedHeap_at (vs := its) (out := (PyProof.Rows.arrOf st').map (·.2)) at_
  have I2 : Inv X pins σ H { s with heap := h' } := I.kept (t' := s.toks) kept
  have hlen : (ys.map V.str).length ≤ sizeLine := by rw [List.length_map, h2.length_eq]; exact small64 h64
  refine ⟨.ref h'.objs.size, upd H h'.objs.size (.lst (ys.map V.str)), I2.laid (t' := s.toks) (fun b u e => ?_) (Nat.le_refl _) ⟨hlen, ((PyProof.Rows.arrOf st').map (·.2)).toList, ep, vals_of_strs h1, he'⟩, rfl, q ys _ h2 (I2.hok.fresh (Nat.le_refl _))⟩
  have lb : b < h'.objs.size := Heap.lt_size e
  rw [PyProof.Rows.sortedHeap_old (Nat.ne_of_lt lb) (by rw [Heap.size_push]; exact Nat.lt_succ_of_lt lb)]
  exact Heap.get?_push_of_some _ e
end
section
variable {K : PySem.W.Frag} {H H' : Hp} {Q : VK} {a : Addr} {xs : List V}
theorem rd_same {o : HO} (s : Same H H') (h : Rd H a o) : Rd H' a o := by
  rcases h with h | ⟨ob, h⟩
  · exact .inl (s _ _ h)
  · exact .inr ⟨ob, s _ _ h⟩
theorem sqT_same (s : Same H H') (h : SqT K H a xs) : SqT K H' a xs := h.elim (fun q => .inl (rd_same s q)) .inr
theorem sqL_same (s : Same H H') (h : SqL K H a xs) : SqL K H' a xs := h.elim (fun q => .inl (rd_same s q)) .inr
theorem ty_tup (h : SqT K H a xs) : TyX K H (.ref a) (.type "tuple") := by
  rcases h with (h | ⟨ob, h⟩) | ⟨o, _, _, h1, h2, _⟩
  · exact .base (.tup h)
  · exact .fTuple h
  · exact .kTuple h1 h2
end
/-- all stands but x -/
def But (x : Addr) (H H' : Hp) : Prop := ∀ b o, b ≠ x → H b = some o → H' b = some o
section
variable {K : PySem.W.Frag} {H H1 H2 : Hp} {a x p : Addr} {xs : List V} {o : HO}
theorem but_same (s : Same H H1) : But x H H1 := fun b o _ e => s b o e
theorem But.trans (u : But x H H1) (v : But x H1 H2) : But x H H2 := fun b o n e => v b o n (u b o n e)
theorem but_new (h : H p = none) : But x H (upd H p o) := but_same (same_new h)
theorem but_at : But x H (upd H x o) := fun b u n e => by rw [upd_ne n]; exact e
theorem but_back (h : H x = none) (s : Same H H1) (u : But x H1 H2) : Same H H2 := fun b o e => u b o (ne_of_none e h) (s b o e)
theorem sqT_but {C dx : Addr} {fs : List (Str × V)} (hx : H x = some (.ins C dx fs)) (u : But x H H1) (h : SqT K H a xs) : SqT K H1 a xs := by
  have ne : ∀ o, H a = some o → (∀ C dx fs, o ≠ .ins C dx fs) → a ≠ x := fun o e n z => by
    rw [z, hx] at e
    exact n _ _ _ (Option.some.inj e).symm
  rcases h with (h | ⟨ob, h⟩) | h
  · exact .inl (.inl (u _ _ (ne _ h fun _ _ _ z => nomatch z) h))
  · exact .inl (.inr ⟨ob, u _ _ (ne _ h fun _ _ _ z => nomatch z) h⟩)
  · exact .inr h
theorem sameT_but {C dx : Addr} {fs : List (Str × V)} (hx : H x = some (.ins C dx fs)) (u : But x H H1) : SameT H H1 := fun b ys e => u b _ (fun z => by
  rw [z, hx] at e
  cases e) e
end
theorem x_fldS {K : PySem.W.Frag} {ta tv : TE} {f : Str} {D : Ends} {σ : L2.St} {H : Hp} (h : tv σ H fun y H1 => ta σ H1 fun x H2 => ∃ a C dx fs, x = .ref a ∧ H2 a = some (.ins C dx fs) ∧ Cls K C ∧ NoAttr K C f ∧ fs.length < 1000 ∧
  D.nx σ (upd H2 a (.ins C dx (putF f y fs)))) : sFld K ta tv f D σ H := h
theorem x_fld {K : PySem.W.Frag} {ta : TE} {f : Str} {σ : L2.St} {H : Hp} {Q : VK} (h : ta σ H fun x H1 => ∃ a C dx fs v, x = .ref a ∧ H1 a = some (.ins C dx fs) ∧ Cls K C ∧ NoAttr K C f ∧ fs.lookup f = some v ∧ Q v H1) : tFld K ta f σ H Q := h
theorem acc_names {acc : List V} {rows : List Row} (h : Paired (fun v r => v = .str (Row.name r)) acc rows) : acc = (names rows).map V.str := by
  induction h with
  | nil => rfl
  | cons e _ ih =>
    rw [e, ih]
    rfl
end Tm
set_option maxRecDepth 100000
set_option maxHeartbeats 4000000
/-! Days: what a sheet with lengths says, and how it lies in the heap. -/
namespace Tm
open PySem PySem.Spec PyProof.Rows L2
/-! ### lengths -/
def dayEnt (ls : List (Str × Int)) : List (Key × V) := ls.map fun p => (Sum.inr p.1, V.int p.2)
def dayOf (ls : List (Str × Int)) (x : Str) : Int := (ls.lookup x).getD 0
theorem look_cons {α : Type} {x y : Str} {v : α} {l : List (Str × α)} : ((y, v) :: l).lookup x = if y = x then some v else l.lookup x := by
  rw [List.lookup_cons]
  by_cases e : y = x
  · rw [if_pos e, e]
    simp
  · rw [if_neg e, show (x == y) = false from beq_eq_false_iff_ne.mpr (Ne.symm e)]
theorem dayEnt_val {x : Str} : ∀ {ls : List (Str × Int)}, valV (dayEnt ls) (Sum.inr x) = (ls.lookup x).map V.int
  | [] => rfl
  | (y, n) :: ls => by
    rw [look_cons]
    by_cases e : y = x
    · rw [if_pos e]
      exact valV_pos (congrArg Sum.inr e)
    · rw [if_neg e]
      exact (valV_neg fun z => e (Sum.inr.inj z)).trans dayEnt_val
theorem look_in {α : Type} {x : Str} : ∀ {ls : List (Str × α)}, x ∈ ls.map Prod.fst → ∃ n, ls.lookup x = some n
  | (y, n) :: ls, h => by
    rw [look_cons]
    by_cases e : y = x
    · exact ⟨n, if_pos e⟩
    · rw [if_neg e]
      refine look_in ?_
      rcases List.mem_cons.mp h with q | q
      · exact absurd q.symm e
      · exact q
theorem day_val {x : Str} {ls : List (Str × Int)} (h : x ∈ ls.map Prod.fst) : valV (dayEnt ls) (Sum.inr x) = some (.int (dayOf ls x)) := by
  obtain ⟨n, e⟩ := look_in h
  rw [dayEnt_val]
  unfold dayOf
  rw [e]
  rfl
theorem look_mem {α : Type} {x : Str} {v : α} : ∀ {l : List (Str × α)}, (l.map Prod.fst).Nodup → (x, v) ∈ l → l.lookup x = some v
  | (y, u) :: l, ud, h => by
    rw [List.map_cons, List.nodup_cons] at ud
    rw [look_cons]
    rcases List.mem_cons.mp h with q | q
    · rw [if_pos (congrArg Prod.fst q).symm]
      exact congrArg some (congrArg Prod.snd q).symm
    · rw [if_neg fun e => ud.1 (by rw [e]; exact List.mem_map.mpr ⟨(x, v), q, rfl⟩)]
      exact look_mem ud.2 q

theorem nodup_inr : ∀ {l : List Str}, l.Nodup → (l.map (Sum.inr : Str → Key)).Nodup
  | [], _ => List.nodup_nil
  | x :: l, h => by
    rw [List.nodup_cons] at h
    rw [List.map_cons, List.nodup_cons]
    refine ⟨fun q => ?_, nodup_inr h.2⟩
    obtain ⟨y, hy, e⟩ := List.mem_map.mp q
    exact h.1 (by rw [← Sum.inr.inj e]; exact hy)

/-! ### spans -/
abbrev Span := Str × Int × Int
def begIn (sp : List Span) (x : Str) : Int := ((sp.lookup x).getD (0, 0)).1
def endIn (sp : List Span) (x : Str) : Int := ((sp.lookup x).getD (0, 0)).2
def maxL : List Int → Int
  | [] => 0
  | x :: xs => xs.foldl max x
theorem foldl_max : ∀ (xs : List Int) (x : Int), (∀ y ∈ x :: xs, y ≤ xs.foldl max x) ∧ xs.foldl max x ∈ x :: xs
  | [], x => ⟨fun y h => by rw [List.mem_singleton] at h; rw [h]; exact Int.le_refl _, .head _⟩
  | z :: xs, x => by
    obtain ⟨h1, h2⟩ := foldl_max xs (max x z)
    refine ⟨fun y h => ?_, ?_⟩
    · rw [List.foldl_cons]
      rcases List.mem_cons.mp h with q | q
      · have := h1 _ (.head _)
        rw [q]
        omega
      · rcases List.mem_cons.mp q with q | q
        · have := h1 _ (.head _)
          rw [q]
          omega
        · exact h1 y (.tail _ q)
    · rw [List.foldl_cons]
      rcases List.mem_cons.mp h2 with q | q
      · rw [q]
        by_cases c : x ≤ z
        · rw [Int.max_eq_right c]
          exact .tail _ (.head _)
        · rw [Int.max_eq_left (by omega)]
          exact .head _
      · exact .tail _ (.tail _ q)
theorem is_max {ns : List Int} {m : Int} (hm : m ∈ ns) (ub : ∀ y ∈ ns, y ≤ m) : m = maxL ns := by
  cases ns with
  | nil => cases hm
  | cons x xs =>
    obtain ⟨h1, h2⟩ := foldl_max xs x
    exact Int.le_antisymm (h1 m hm) (ub _ h2)
def startOf (sp : List Span) : Lay → Int
  | .now => 0
  | .behind xs => maxL (xs.map (endIn sp))
  | .beside x => begIn sp x
  | .split x _ => begIn sp x
def stopOf (sp : List Span) (dy : Str → Int) (r : Row) : Int :=
  match r.lay with
  | .split x k => max (startOf sp r.lay + 12 * r.need * dy r.name) (endIn sp x + k * r.need * dy r.name)
  | _ => startOf sp r.lay + 12 * r.need * dy r.name
def step (dy : Str → Int) (sp : List Span) (r : Row) : List Span := sp ++ [(r.name, startOf sp r.lay, stopOf sp dy r)]
def spansOf (dy : Str → Int) (rows : List Row) : List Span := rows.foldl (step dy) []
theorem spans_snoc (dy : Str → Int) (rows : List Row) (r : Row) : spansOf dy (rows ++ [r]) = step dy (spansOf dy rows) r := by
  unfold spansOf
  rw [List.foldl_append]
  rfl
theorem spans_fold (dy : Str → Int) : ∀ (rows : List Row) (sp : List Span), (rows.foldl (step dy) sp).map Prod.fst = sp.map Prod.fst ++ names rows
  | [], sp => by simp [names]
  | r :: rows, sp => by
    rw [List.foldl_cons, spans_fold dy rows]
    simp [step, names]
theorem spans_names (dy : Str → Int) (rows : List Row) : (spansOf dy rows).map Prod.fst = names rows := spans_fold dy rows []
def lastOf (sp : List Span) : Int := maxL (sp.map fun s => s.2.2)

def SpanAt (H : Hp) (kv : Key × V) (s : Span) : Prop := kv.1 = Sum.inr s.1 ∧ ∃ t, kv.2 = .ref t ∧ H t = some (.tup [.int s.2.1, .int s.2.2])
theorem SpanAt.mono {H H' : Hp} (m : SameT H H') {kv : Key × V} {s : Span} : SpanAt H kv s → SpanAt H' kv s
  | ⟨e, t, h1, h2⟩ => ⟨e, t, h1, m _ _ h2⟩
def SpansIn (H : Hp) (kvs : List (Key × V)) (sp : List Span) : Prop := Paired (SpanAt H) kvs sp
theorem SpansIn.mono {H H' : Hp} (m : SameT H H') {kvs : List (Key × V)} {sp : List Span} (h : SpansIn H kvs sp) : SpansIn H' kvs sp := pr_mono (fun _ _ q => SpanAt.mono m q) h
/-- a dict of spans -/
def SpansAt (H : Hp) (d : Addr) (sp : List Span) : Prop := ∃ kvs, H d = some (.dK kvs) ∧ SpansIn H kvs sp
theorem SpansAt.mono {H H' : Hp} (s : Same H H') {d : Addr} {sp : List Span} : SpansAt H d sp → SpansAt H' d sp
  | ⟨kvs, h1, h2⟩ => ⟨kvs, s _ _ h1, h2.mono (sameT s)⟩
theorem SpansIn.get {H : Hp} {kvs : List (Key × V)} {sp : List Span} (h : SpansIn H kvs sp) (ud : (sp.map Prod.fst).Nodup) {x : Str} (hx : x ∈ sp.map Prod.fst) : ∃ t, valV kvs (Sum.inr x) = some (.ref t) ∧ H t = some (.tup [.int (begIn sp x), .int (endIn sp x)]) := by
  obtain ⟨⟨y, b, e⟩, hm, rfl⟩ := List.mem_map.mp hx
  have l := look_mem ud hm
  have uk : (sp.map fun s => (Sum.inr s.1 : Key)).Nodup := by
    have e2 : (sp.map fun s => (Sum.inr s.1 : Key)) = (sp.map Prod.fst).map Sum.inr := by rw [List.map_map]; rfl
    rw [e2]
    exact nodup_inr ud
  obtain ⟨v, h1, t, h2, h3⟩ := dk_val (key := fun s : Span => (Sum.inr s.1 : Key)) (R := fun v (s : Span) => ∃ t, v = .ref t ∧ H t = some (.tup [.int s.2.1, .int s.2.2])) h hm uk
  refine ⟨t, by rw [h1, h2], ?_⟩
  unfold begIn endIn
  rw [l]
  exact h3
theorem acc_of {α : Type} {f : α → V} {acc : List V} {xs : List α} (h : Paired (fun v x => v = f x) acc xs) : acc = xs.map f := by
  induction h with
  | nil => rfl
  | cons e _ ih => rw [e, ih]; rfl
theorem same_unlock {H H2 : Hp} {d : Addr} {u : HO} {od : Obj} (hd : H d = some u) (s : Same (upd H d (.frz od u)) H2) : Same H (upd H2 d u) := fun b o e => by
  by_cases c : b = d
  · rw [c] at e ⊢
    rw [upd_same, ← hd]
    exact e
  · rw [upd_ne c]
    exact s b o (by rw [upd_ne c]; exact e)
theorem x_ckw {r : List V → List V → Hp → VK → Prop} {t tk : TA} {σ : L2.St} {H : Hp} {Q : VK} (h : t σ H fun vs H1 => tk σ H1 fun zs H2 => r vs zs H2 Q) : tCKw r t tk σ H Q := h
theorem SpansIn.fresh {H : Hp} {kvs : List (Key × V)} {sp : List Span} (h : SpansIn H kvs sp) {x : Str} (hx : x ∉ sp.map Prod.fst) : valV kvs (Sum.inr x) = none := by
  unfold SpansIn at h
  induction h with
  | nil => rfl
  | cons e _ ih =>
    rename_i kv s l1 l2 _
    rw [List.map_cons, List.mem_cons, not_or] at hx
    obtain ⟨k, v⟩ := kv
    refine (valV_neg (fun z => ?_)).trans (ih hx.2)
    exact hx.1 (Sum.inr.inj (z.symm.trans e.1))
def full (r : Row) : Row := { r with need := 12 }
theorem names_full (rows : List Row) : names (rows.map full) = names rows := by
  unfold names
  rw [List.map_map]
  rfl
theorem Named.full {rows : List Row} (n : Named rows) : Named (rows.map full) := by
  refine ⟨fun r hr => ?_, by rw [names_full]; exact n.unlike, fun i r hr x hx => ?_⟩
  · obtain ⟨r0, h0, rfl⟩ := List.mem_map.mp hr
    exact ⟨(n.ok r0 h0).name, (n.ok r0 h0).lay, (by decide : (0 : Int) ≤ 12), (by decide : (12 : Int) ≤ 12)⟩
  · rw [List.getElem?_map] at hr
    obtain ⟨r0, h0, rfl⟩ := Option.map_eq_some_iff.mp hr
    rw [names_full]
    exact n.back i r0 h0 x hx
/-- days of a name that is quashed: none -/
def serve (gone : List Str) (ds : List (Str × Int)) (x : Str) : Int := if x ∈ gone then 0 else dayOf ds x
def served (gone : List Str) (ds : List (Str × Int)) (xs : List Str) : List (Str × Int) := xs.map fun x => (x, serve gone ds x)
theorem served_fst (gone : List Str) (ds : List (Str × Int)) (xs : List Str) : (served gone ds xs).map Prod.fst = xs := by
  unfold served
  rw [List.map_map]
  exact List.map_id'' (fun _ => rfl) xs
theorem served_day (gone : List Str) (ds : List (Str × Int)) {x : Str} : ∀ {xs : List Str}, x ∈ xs → dayOf (served gone ds xs) x = serve gone ds x
  | y :: xs, h => by
    unfold dayOf served
    rw [List.map_cons, look_cons]
    by_cases e : y = x
    · rw [if_pos e, e]
      rfl
    · rw [if_neg e]
      refine served_day gone ds (xs := xs) ?_
      rcases List.mem_cons.mp h with q | q
      · exact absurd q.symm e
      · exact q
theorem stop_congr {dy dy' : Str → Int} {sp : List Span} {r : Row} (h : dy r.name = dy' r.name) : stopOf sp dy r = stopOf sp dy' r := by
  unfold stopOf
  rw [h]
theorem spans_congr {dy dy' : Str → Int} : ∀ {rows : List Row} {sp : List Span}, (∀ r ∈ rows, dy r.name = dy' r.name) → rows.foldl (step dy) sp = rows.foldl (step dy') sp
  | [], _, _ => rfl
  | r :: rows, sp, h => by
    rw [List.foldl_cons, List.foldl_cons]
    have e : step dy sp r = step dy' sp r := by
      unfold step
      rw [stop_congr (h r (.head _))]
    rw [e]
    exact spans_congr fun q hq => h q (.tail _ hq)
theorem x_spanPut {σ : L2.St} {H : Hp} {D : Ends} {p : Addr} {x : Str} {a b : Int} {sp : List Span} (h2 : σ[2]? = some (some (.ref p))) (h3 : σ[3]? = some (some (.str x))) (h6 : σ[6]? = some (some (.int a))) (h7 : σ[7]? = some (some (.int b)))
    (hs : SpansAt H p sp) (out : x ∉ sp.map Prod.fst) (few : sp.length < 1000) (fin : ∀ H', But p H H' → SpansAt H' p (sp ++ [(x, a, b)]) → D.nx σ H') :
    sDPut (tVar 2) (tVar 3) (tTup (tCons (tVar 6) (tCons (tVar 7) tNil))) D σ H := by
  obtain ⟨kvs, hd, hk⟩ := hs
  refine ⟨_, h6, _, h7, len_le (by simp), fun t ht => ⟨_, h2, _, h3, x_dput (same_new ht _ _ hd) ?_ ?_⟩⟩
  · have := pr_len hk
    rw [sizeLine_eq]
    omega
  · have st := SameT.trans (SameT.new (o := .tup [.int a, .int b]) ht) (SameT.put (o := .dK (putK kvs (Sum.inr x) (.ref t))) (same_new ht _ _ hd) (fun _ z => nomatch z))
    refine fin _ ((but_new ht).trans but_at) ⟨_, upd_same, ?_⟩
    rw [putK_new _ (hk.fresh out)] at st ⊢
    exact Paired.snoc (hk.mono st) ⟨rfl, t, rfl, by
      rw [upd_ne (fun z => by rw [z, hd] at ht; cases ht)]
      exact upd_same⟩
theorem acc_dict {α : Type} {key : α → Key} {f : α → V} {acc : List (Key × V)} {xs : List α} (h : Paired (fun kv x => kv.1 = key x ∧ kv.2 = f x) acc xs) : acc = xs.map fun x => (key x, f x) := by
  induction h with
  | nil => rfl
  | cons e _ ih =>
    rename_i a b _ _ _
    rw [ih, show a = (key b, f b) from Prod.ext e.1 e.2]
    rfl
theorem full_spans (gone : List Str) (ds : List (Str × Int)) (rows : List Row) : spansOf (dayOf (served gone ds (names rows))) (rows.map full) = spansOf (serve gone ds) (rows.map full) := by
  refine spans_congr fun r hr => ?_
  obtain ⟨r0, h0, rfl⟩ := List.mem_map.mp hr
  exact served_day gone ds (x := (full r0).name) (List.mem_map.mpr ⟨r0, h0, rfl⟩)
theorem least_spans (gone : List Str) (ds : List (Str × Int)) (rows : List Row) : spansOf (dayOf (served gone ds (names rows))) rows = spansOf (serve gone ds) rows :=
  spans_congr fun r hr => served_day gone ds (List.mem_map_of_mem hr)
theorem spans_len (dy : Str → Int) (rows : List Row) : (spansOf dy rows).length = rows.length := by
  have e := congrArg List.length (spans_names dy rows)
  unfold names at e
  rw [List.length_map, List.length_map] at e
  exact e
/-- a dict of lengths that may be asked -/
structure LenOk (H : Hp) (d : Addr) (ds : List (Str × Int)) (rows : List Row) : Prop where
  here : H d = some (.dK (dayEnt ds))
  few : ds.length < 1000
  ok : ∀ q ∈ ds, NameOk q.1 ∧ 0 ≤ q.2
  all : ∀ x ∈ names rows, x ∈ ds.map Prod.fst
theorem LenOk.mono {H H' : Hp} {d : Addr} {ds : List (Str × Int)} {rows : List Row} (s : Same H H') (l : LenOk H d ds rows) : LenOk H' d ds rows := ⟨s _ _ l.here, l.few, l.ok, l.all⟩
end Tm
set_option maxRecDepth 100000
set_option maxHeartbeats 4000000
/-! list(d.values()); lists of ints; appending. -/
namespace Tm
open PySem PySem.Spec PyProof.Rows L2
def tListVals (td : TE) : TE := fun σ H Q => td σ H fun x H1 => ∃ a kvs, x = V.ref a ∧ H1 a = some (.dK kvs) ∧ ∀ l, H1 l = none → Q (.ref l) (upd H1 l (.lst (kvs.map Prod.snd)))
section
variable {X : Cx} {o : Expr} {p pos apos mpos : Pos} {td : TE}
theorem pe_listVals (hc : X.calm = true) (hg : Gl X "list") (hm : X.mg "list" = none) (hb : bootBuiltins "list" = some (.type "list")) (hd : PE X o td) (hbase : attributeBase o "values" X.env (eval o X.env) = eval o X.env := by rfl) (hline : (apos.endLine == mpos.line) = true := by rfl)
    (na : starEach [Expr.Call (.Attribute o "values" apos) [] [] mpos] X.env = (false, eval (Expr.Call (.Attribute o "values" apos) [] [] mpos) X.env) :: starEach [] X.env := by rfl) :
    PE X (.Call (.Name "list" p) [.Call (.Attribute o "values" apos) [] [] mpos] [] pos) (tListVals td) := by
  refine ⟨fun pins s σ H Q I h => ?_⟩
  refine Call_ (ld_blt I hg hm hb (PyProof.Rows.callWith_type1 (PyProof.Rows.args_cons (wpAny_Call_method0_late hbase hline (thn (hd.run pins s σ H _ I h) fun v s1 ⟨x, H1, I1, r1, a, kvs, ex, ha, q⟩ => ?_)) na) na))
  subst ex
  obtain rfl : v = Value.ref a := r1
  obtain ⟨_, hsys, vs, rel, dof⟩ := dk_of I1.hok ha
  obtain ⟨ep, dat⟩ := dof.dictAt
  obtain ⟨ob, es, ho, ex, _⟩ := id dat
  refine ⟨"dict", "dict.values", PySem.F.plainAttrs_dict, PySem.F.slot_dict_values, PySem.F.type_dict_values, ⟨ob, ho, ex.1⟩, fun b e => ?_, Calls.callWith_builtin rfl (PySem.evalArgs_none ?_)⟩
  · cases e
    exact ⟨ob, ho, ex.2.1⟩
  refine call_meetsIn PySem.F.slot_dict_values ⟨ob, ho, ex.1⟩ PySem.F.entry_dict_values (PySem.F.args_dict_values_1 _) (meets_dict_values (mixKind X.prog X.w) a hsys) ⟨⟨vs, dof⟩, ?_⟩
  refine PyProof.Rows.args_nil ?_
  have up : ∀ b u, s1.heap.get? b = some u → (s1.heap.push { cls := .type "dict_values", data := .fields #[.ref a] }).get? b = some u := fun b u e => Heap.get?_push_of_some _ e
  have I2 : Inv X pins σ H1 { s1 with heap := s1.heap.push { cls := .type "dict_values", data := .fields #[.ref a] } } := I1.kept (t' := s1.toks) up
  have many : kvs.length = vs.length := Paired.length rel
  obtain ⟨hz, _⟩ := dk_of I1.hok ha
  refine PySem.W.kdl_call (PySem.W.kdl_values (knd := mixKind X.prog X.w) (kvs := vs) (ep := ep)) (I1.ok.hd hc) ⟨⟨_, Heap.get?_push_size _ rfl, rfl, rfl⟩, dat.keep up⟩ (by rw [← many]; exact hz) fun h' tk acc c kept at_ its => ?_
  have vals : Vals (kvs.map Prod.snd) acc.toList := by
    refine vals_by (by have e : acc.size = vs.length := its.1; rw [List.length_map, many, ← e]; exact Array.length_toList.symm) fun i x u hx hu => ?_
    obtain ⟨k, hk⟩ := its.2 i u (by rw [← Array.getElem?_toList]; exact hu)
    obtain ⟨y, h1, h2⟩ := KV.at' rel hk
    rw [List.getElem?_map, h1] at hx
    cases hx
    exact h2
  exact ⟨.ref _, upd H1 _ (.lst (kvs.map Prod.snd)), I2.laid (t' := tk) kept (Nat.le_refl _) ⟨by rw [List.length_map]; exact hz, acc.toList, c, vals, by rw [Array.toArray_toList]; exact at_⟩, rfl, q _ (I2.hok.fresh (Nat.le_refl _))⟩
end
theorem hu64 {A : Around} {k : Nat} (hr : Room k A) : A.units + 64 < cLine := hr.units
theorem hu0 {n : Nat} (h : n + 1 < cLine) : n < cLine := Nat.lt_of_succ_lt h
section
variable {K : PySem.W.Frag} {H : Hp} {Q : VK} {p l : Addr} {z : Int} {ns : List Int}
theorem inV_int {z : Int} : ∀ {ys : List Int}, inV (.int z) (ys.map V.int) = decide (z ∈ ys)
  | [] => rfl
  | y :: ys => by
    have ih := inV_int (z := z) (ys := ys)
    unfold inV at ih ⊢
    rw [List.map_cons, List.any_cons, ih]
    have e : eqV (.int y) (.int z) = decide (y = z) := by
      show (y == z) = _
      by_cases q : y = z
      · rw [q, decide_eq_true rfl]
        exact beq_self_eq_true z
      · rw [decide_eq_false q]
        exact beq_eq_false_iff_ne.mpr q
    rw [e, ← Bool.decide_or]
    exact decide_eq_decide.mpr (by rw [List.mem_cons, eq_comm (a := y)])
theorem flat_int (ys : List Int) : (ys.map V.int).all flatV = true := by
  rw [List.all_map]
  exact List.all_eq_true.mpr fun _ _ => rfl
theorem x_ninLI (hs : SqL K H p (ns.map V.int)) (h : Q (.bl (!decide (z ∈ ns))) H) : rIn K true (.int z) (.ref p) H Q := ⟨p, _, rfl, .inl hs, rfl, flat_int ns, by
  rw [inV_int]
  exact h⟩
theorem x_append {xs : List V} {y : V} (e : H l = some (.lst xs)) (few : xs.length < 10000) (h : Q .non (upd H l (.lst (xs ++ [y])))) : rAppend (.ref l) [y] H Q := ⟨l, xs, y, rfl, rfl, e, by rw [sizeLine_eq]; omega, h⟩
theorem x_bm {T : String} {r : V → List V → Hp → VK → Prop} {to : TE} {t : TA} {σ : L2.St} (h : to σ H fun x H1 => tyV K T x H1 ∧ t σ H1 fun xs H2 => r x xs H2 Q) : tBM K T r to t σ H Q := h
theorem x_listVals {td : TE} {σ : L2.St} (h : td σ H fun x H1 => ∃ a kvs, x = V.ref a ∧ H1 a = some (.dK kvs) ∧ ∀ l, H1 l = none → Q (.ref l) (upd H1 l (.lst (kvs.map Prod.snd)))) : tListVals td σ H Q := h
theorem x_cat {l b : Addr} {xs zs : List V} (h1 : H l = some (.lst xs)) (h2 : H b = some (.lst zs)) (few : xs.length + zs.length ≤ 10000) (h : ∀ p, H p = none → Q (.ref p) (upd H p (.lst (xs ++ zs)))) : rCat (.ref l) (.ref b) H Q := ⟨l, b, xs, zs, rfl, rfl, h1, h2, len_le few, h⟩
end
end Tm
set_option maxRecDepth 100000
set_option maxHeartbeats 4000000
/-! What the laws by hand ask, reckoned out. -/
namespace Tm
open PySem PySem.Spec PyProof.Rows L2
def nameB (z : Str) : Bool := decide (1 ≤ z.length) && decide (z.length ≤ 8) && z.cps.toList.all fun c => decide (97 ≤ c) && decide (c ≤ 122)
theorem nameB_ok {z : Str} (h : nameB z = true) : NameOk z := by
  unfold nameB at h
  simp only [Bool.and_eq_true, decide_eq_true_eq, List.all_eq_true] at h
  exact ⟨h.1.1, h.1.2, fun c hc => h.2 c hc⟩
def layB : Lay → Bool
  | .now => true
  | .behind xs => !xs.isEmpty && decide (xs.length < 1000) && decide xs.Nodup && xs.all nameB
  | .beside x => nameB x
  | .split x k => nameB x && decide (1 ≤ k) && decide (k ≤ 11)
theorem layB_ok : ∀ {l : Lay}, layB l = true → l.Ok
  | .now, _ => trivial
  | .behind xs, h => by
    simp only [layB, Bool.and_eq_true, decide_eq_true_eq, List.all_eq_true, Bool.not_eq_true', List.isEmpty_eq_false_iff] at h
    exact ⟨h.1.1.1, h.1.1.2, h.1.2, fun x hx => nameB_ok (h.2 x hx)⟩
  | .beside x, h => nameB_ok h
  | .split x k, h => by
    simp only [layB, Bool.and_eq_true, decide_eq_true_eq] at h
    exact ⟨nameB_ok h.1.1, h.1.2, h.2⟩
def rowsB : List Str → List Row → Bool
  | _, [] => true
  | seen, r :: rs => nameB r.name && layB r.lay && decide (0 ≤ r.need) && decide (r.need ≤ 12) && decide (r.name ∉ seen) && decide (∀ x ∈ r.lay.anchors, x ∈ seen) && rowsB (seen ++ [r.name]) rs
theorem rowsB_ok : ∀ {rows : List Row} {seen : List Str}, rowsB seen rows = true → seen.Nodup → (∀ r ∈ rows, r.Ok) ∧ (seen ++ names rows).Nodup ∧ ∀ (i : Nat) r, rows[i]? = some r → ∀ x ∈ r.lay.anchors, x ∈ seen ++ (names rows).take i
  | [], seen, _, ud => ⟨fun _ h => (nomatch h), by simpa [names] using ud, fun i r (h : ([] : List Row)[i]? = some r) => by simp at h⟩
  | r :: rs, seen, h, ud => by
    simp only [rowsB, Bool.and_eq_true, decide_eq_true_eq] at h
    obtain ⟨⟨⟨⟨⟨⟨h1, h2⟩, h3⟩, h4⟩, h5⟩, h6⟩, h7⟩ := h
    have ud2 : (seen ++ [r.name]).Nodup := by
      rw [List.nodup_append]
      exact ⟨ud, by simp, fun a ha b hb e => h5 (by rw [List.mem_singleton] at hb; rw [← hb, ← e]; exact ha)⟩
    obtain ⟨k1, k2, k3⟩ := rowsB_ok h7 ud2
    refine ⟨fun q hq => ?_, ?_, fun i q hq x hx => ?_⟩
    · rcases List.mem_cons.mp hq with e | e
      · rw [e]
        exact ⟨nameB_ok h1, layB_ok h2, h3, h4⟩
      · exact k1 q e
    · rw [List.append_assoc] at k2
      exact k2
    · cases i with
      | zero =>
        obtain rfl : r = q := by simpa using hq
        exact List.mem_append.mpr (.inl (h6 x hx))
      | succ i =>
        have := k3 i q (by simpa using hq) x hx
        rw [List.append_assoc] at this
        exact this
theorem named_of {rows : List Row} (h : rowsB [] rows = true) : Named rows := by
  obtain ⟨h1, h2, h3⟩ := rowsB_ok h List.nodup_nil
  exact ⟨h1, h2, fun i r hr x hx => by simpa using h3 i r hr x hx⟩
def lenB (ds : List (Str × Int)) (rows : List Row) : Bool := decide (ds.length < 1000) && ds.all (fun q => nameB q.1 && decide (0 ≤ q.2)) && decide (∀ x ∈ names rows, x ∈ ds.map Prod.fst)
theorem len_of {H : Hp} {d : Addr} {ds : List (Str × Int)} {rows : List Row} (h : H d = some (.dK (dayEnt ds))) (b : lenB ds rows = true) : LenOk H d ds rows := by
  simp only [lenB, Bool.and_eq_true, decide_eq_true_eq, List.all_eq_true] at b
  exact ⟨h, b.1.1, fun q hq => ⟨nameB_ok (b.1.2 q hq).1, (b.1.2 q hq).2⟩, b.2⟩
theorem serve_perm {g g' : List Str} (h : g.Perm g') (ds : List (Str × Int)) : serve g ds = serve g' ds := funext fun x => by
  unfold serve
  by_cases c : x ∈ g
  · rw [if_pos c, if_pos (h.mem_iff.mp c)]
  · rw [if_neg c, if_neg fun q => c (h.mem_iff.mpr q)]
theorem merge_new : ∀ {kvs acc : List (Key × V)}, ((acc ++ kvs).map Prod.fst).Nodup → mergeK acc kvs = acc ++ kvs
  | [], acc, _ => by simp [mergeK]
  | (k, v) :: kvs, acc, h => by
    have out : valV acc k = none := by
      cases e : valV acc k with
      | none => rfl
      | some u =>
        exfalso
        have hk := valV_in e
        rw [List.map_append, List.nodup_append] at h
        exact h.2.2 k hk k (by simp) rfl
    have ih := merge_new (kvs := kvs) (acc := acc ++ [(k, v)]) (by rw [List.append_assoc]; exact h)
    rw [List.append_assoc] at ih
    unfold mergeK at ih ⊢
    rw [List.foldl_cons, putK_new _ out]
    exact ih

/-! ### the row of the law -/
def wordsAll : List Str := ["a", "b", "c", "d", "e", "f", "g", "h"]
def wordsOf (m : Nat) : List Str := wordsAll.take (m + 1)
def W (i : Nat) : Str := wordsAll.getD i Str.empty
def rowsTail (m : Nat) : List Row := (List.range m).map fun i => ⟨W (i + 1), .behind [W i], 6⟩
def rowsRow (m : Nat) : List Row := ⟨"a", .now, 12⟩ :: rowsTail m
def besTail (m : Nat) : List Row := ((wordsOf m).drop 1).map fun w => ⟨w, .beside "a", 3⟩
def rowsBes (m : Nat) : List Row := ⟨"a", .now, 3⟩ :: besTail m
def daysRow (m d : Nat) : List (Str × Int) := (wordsOf m).map fun w => (w, (d : Int))
def fullG (rows : List Row) (gone : List Str) (ds : List (Str × Int)) : List Span := spansOf (serve gone ds) (rows.map full)
def leastG (rows : List Row) (gone : List Str) (ds : List (Str × Int)) : List Span := spansOf (serve gone ds) rows
def unlikeI (ns : List Int) : List Int := ns.foldl (fun acc x => if x ∈ acc then acc else acc ++ [x]) []
def rowCheck (m d : Nat) : Bool :=
  rowsB [] (rowsRow m) && rowsB [] (rowsBes m) && lenB (daysRow m d) (rowsRow m) && lenB (daysRow m d) (rowsBes m) && decide ((rowsRow m).length < 60) && decide ((rowsBes m).length < 60) &&
  decide (lastOf (fullG (rowsRow m) [] (daysRow m d)) = 144 * (d : Int) * ((m : Int) + 1)) &&
  decide (lastOf (leastG (rowsRow m) [] (daysRow m d)) = 144 * (d : Int) + 72 * (d : Int) * (((m : Int) + 1) - 1)) &&
  decide (((fullG (rowsRow m) [] (daysRow m d)).map fun s => (s.1, s.2.1)).lookup (W m) = some (144 * (d : Int) * (((m : Int) + 1) - 1))) &&
  decide (lastOf (fullG (rowsRow m) ["a"] (daysRow m d)) = 144 * (d : Int) * (((m : Int) + 1) - 1)) &&
  decide (lastOf (fullG (rowsBes m) [] (daysRow m d)) = 144 * (d : Int)) && decide (lastOf (leastG (rowsBes m) [] (daysRow m d)) = 36 * (d : Int)) &&
  decide (unlikeI ((fullG (rowsBes m) [] (daysRow m d)).map fun s => s.2.1) = [0]) && decide ((wordsOf m).Nodup) && decide (("a" : Str) ∈ names (rowsRow m))
theorem row_all : ∀ m, m < 8 → ∀ d, d < 30 → rowCheck m d = true := by decide +kernel
/-! ### the split of the law -/
def rows3 : List Row := [⟨"a", .now, 12⟩, ⟨"b", .split "a" 6, 12⟩, ⟨"c", .behind ["b", "a"], 12⟩]
def days3 (f s : Nat) : List (Str × Int) := [("a", (f : Int)), ("b", (s : Int)), ("c", 1)]
def stop3 (f s : Nat) : Int := if 144 * (f : Int) + 72 * (s : Int) > 144 * (s : Int) then 144 * (f : Int) + 72 * (s : Int) else 144 * (s : Int)
def ends3 (f s : Nat) : List (Str × Int) := [("a", 144 * (f : Int)), ("b", stop3 f s), ("c", stop3 f s + 144)]
def splitCheck (f s : Nat) : Bool :=
  rowsB [] rows3 && lenB (days3 f s) rows3 && decide (((fullG rows3 [] (days3 f s)).map fun x => (x.1, x.2.2)) = ends3 f s) &&
  decide (((fullG rows3 [] (days3 f s)).map fun x => (x.1, x.2.1)).lookup ("b" : Str) = some 0) && decide (lastOf (fullG rows3 ["a"] (days3 f s)) = 144 * (s : Int) + 144) && decide (lastOf (fullG rows3 ["b"] (days3 f s)) = 144 * (f : Int) + 144) &&
  decide (lastOf (fullG rows3 ["b", "a"] (days3 f s)) = 144)
theorem split_all : ∀ f, f < 20 → ∀ s, s < 20 → splitCheck f s = true := by decide +kernel
/-! ### the last sheet of the law -/
def rows4 : List Row := [⟨"a", .now, 12⟩, ⟨"b", .now, 12⟩, ⟨"c", .behind ["a", "b"], 12⟩, ⟨"d", .beside "c", 12⟩]
def days4 : List (Str × Int) := [("a", 5), ("b", 7), ("c", 2), ("d", 4)]
theorem check4 : (rowsB [] rows4 && lenB days4 rows4 && decide (((fullG rows4 [] days4).map fun x => (x.1, x.2.1)).lookup ("d" : Str) = some 1008) && decide (lastOf (fullG rows4 [] days4) = 1584) &&
  decide (lastOf (fullG rows4 ["b"] days4) = 1296) && decide (lastOf (fullG rows4 ["c"] days4) = 1584)) = true := by decide +kernel
theorem abc : ("abcdefgh" : Str).cps.toList.map (fun c => V.str ⟨#[c]⟩) = wordsAll.map V.str := by decide +kernel
theorem abc_len : ("abcdefgh" : Str).cps.size ≤ 1000 := by decide +kernel
theorem cut_words : ∀ m : Nat, m < 8 → cutV (wordsAll.map V.str) none (some ((m : Int) + 1)) = (wordsOf m).map V.str := by decide +kernel
theorem cut_tail : ∀ m : Nat, m < 8 → cutV ((wordsOf m).map V.str) (some 1) none = ((wordsOf m).drop 1).map V.str := by decide +kernel
theorem at_words : ∀ m : Nat, m < 8 → ∀ i, i < m → (wordsOf m)[i + 1]? = some (W (i + 1)) ∧ (wordsOf m)[i]? = some (W i) := by decide +kernel
theorem last_word : ∀ m : Nat, m < 8 → atI ((wordsOf m).map V.str) (-1) = some (.str (W m)) := by decide +kernel
theorem words_len : ∀ m : Nat, m < 8 → (wordsOf m).length ≤ 8 := by decide +kernel
theorem at_word {m i : Nat} {x : Str} {j : Int} (h : (wordsOf m)[i]? = some x) (e : j = (i : Int)) : atI ((wordsOf m).map V.str) j = some (.str x) := at_of (j := i) e (by rw [List.getElem?_map, h]; rfl)
theorem pairs_of {K : PySem.W.Frag} {H : Hp} {n : Int} {acc : List V} {xs : List Str} (h : Paired (fun v x => ∃ t, v = V.ref t ∧ H t = some (.tup [.str x, .int n])) acc xs) :
    ∃ ps : List Addr, acc = ps.map V.ref ∧ Paired (fun p (kv : Key × V) => SqT K H p [kV kv.1, kv.2]) ps (dayEnt (xs.map fun x => (x, n))) := by
  induction h with
  | nil => exact ⟨[], rfl, .nil⟩
  | cons e _ ih =>
    obtain ⟨t, e1, e2⟩ := e
    obtain ⟨ps, e3, e4⟩ := ih
    exact ⟨t :: ps, by rw [e1, e3]; rfl, .cons (sqT e2) e4⟩
theorem merge_days {ds : List (Str × Int)} (ud : (ds.map Prod.fst).Nodup) : mergeK [] (dayEnt ds) = dayEnt ds := by
  refine (merge_new ?_).trans (List.nil_append _)
  rw [List.nil_append]
  have e : (dayEnt ds).map Prod.fst = (ds.map Prod.fst).map Sum.inr := by
    unfold dayEnt
    rw [List.map_map, List.map_map]
    rfl
  rw [e]
  exact nodup_inr ud
theorem days_fst (m d : Nat) : (daysRow m d).map Prod.fst = wordsOf m := by
  unfold daysRow
  rw [List.map_map]
  exact List.map_id'' (fun _ => rfl) _
theorem day_self {L : List (Str × Int)} (ud : (L.map Prod.fst).Nodup) : ∀ p ∈ dayEnt L, valV (dayEnt L) p.1 = some p.2 ∧ flatB p.2 = true := by
  intro p hp
  obtain ⟨⟨x, n⟩, h1, rfl⟩ := List.mem_map.mp hp
  refine ⟨?_, rfl⟩
  show valV (dayEnt L) (Sum.inr x) = some (.int n)
  rw [dayEnt_val, look_mem ud h1]
  rfl
theorem three_ud : ([("a" : Str), "b", "c"]).Nodup := by decide +kernel
theorem four_ud : ([("a" : Str), "b", "c", "d"]).Nodup := by decide +kernel
theorem in3 : ("a" : Str) ∈ names rows3 ∧ ("b" : Str) ∈ names rows3 ∧ ("a" : Str) ∉ [("b" : Str)] := by decide +kernel
theorem in4 : ("c" : Str) ∈ names rows4 ∧ ("b" : Str) ∈ names rows4 := by decide +kernel
end Tm
set_option maxRecDepth 100000
set_option maxHeartbeats 4000000
namespace Tm
open PySem PySem.Spec PyProof.Rows L2
def top (i : Nat) : Stmt := PySem.Challenge.pw_termlays_k09_days_by_hand.main.body.getD i (.Pass ⟨0, 0, 0, 0⟩)
section
variable {P : Program} {w : World} {K : PySem.W.Frag} {mg : Str → Option Value} {base : Heap}
local macro_rules | `(tactic| walk_at "in") => `(tactic| dsimp only [cxOf, L2.start, List.map, List.length, Nat.reduceAdd, Nat.reduceSub, List.replicate, List.cons_append, List.nil_append])
local macro_rules | `(tactic| walk_at "num") => `(tactic| first
  | exact Or.inl ⟨by omega, by omega⟩ | exact Or.inr ⟨by omega, by omega⟩ | exact ⟨by omega, by omega⟩ | exact ⟨by decide, by decide, by omega⟩ | (show (0 : Int) < _; omega))
local macro_rules | `(tactic| walk_at "go1") => `(tactic| with_reducible first
  | refine x_seq ?_ | refine x_asg ?_ | refine x_ret ?_ | refine x_retN ?_ | refine x_drop ?_ | refine x_next ?_ | refine x_ifS ?_ | refine x_par ?_
  | refine x_var (by with_unfolding_all exact rfl) ?_
  | refine x_C ?_ | refine x_op ?_ | refine x_rI0 ?_ | refine x_un ?_ | refine x_rU ?_ | refine x_cb ?_ | refine x_nil ?_ | refine x_cons ?_ | refine x_test ?_ | refine x_tB ?_ | refine x_bl2 ?_
  | refine x_eq (by with_unfolding_all exact rfl) ?_ | refine x_ne (by with_unfolding_all exact rfl) ?_
  | refine x_and ?_ | refine x_or ?_ | refine x_not ?_ | refine x_andV ?_ | refine x_orV ?_ | refine x_notV ?_ | refine x_if ?_ | refine x_chain ?_ | refine x_tup ?_ | refine x_lst ?_ | refine x_call ?_ | refine x_sl ?_ | refine x_noPart ?_ | refine x_part ?_
  | refine x_int ?_ | refine x_int1 ?_ | refine x_max2 ?_ | refine x_min2 ?_ | refine x_dgetT ?_ | refine x_dputT ?_ | refine x_dinT ?_ | refine x_dnotinT ?_ | refine x_disp ?_ | refine x_pairs ?_ | refine x_pairs0 ?_ | refine x_dnew ?_ | refine x_ckw ?_ | refine x_fldS ?_ | refine x_fld ?_ | refine x_gTup (sqT (by assumption)) (by with_unfolding_all exact rfl) ?_ | refine x_gCons ?_ | refine x_gNil ?_ | refine iteT ?_ | refine x_nbt ?_ | refine i_sn ?_ | refine i_ss ?_ | refine i_nsn ?_ | refine i_nss ?_ | refine x_nbf ?_ | refine iteF ?_
  | refine x_isi_str ?_ | refine x_isi_int ?_ | refine x_isi_intB ?_ | refine x_isi_tup (by assumption) ?_ | refine x_isi_dict (by assumption) ?_ | refine x_st2 ?_ | refine x_yes ?_ | refine x_yes2 ?_ | refine x_lenSet ?_)
local macro_rules | `(tactic| walk_at "go") => `(tactic| repeat (first
  | walk_at "go1"
  | ((with_reducible refine x_rI ?c ?_); (case c => walk_at "num"))
  | ((with_reducible refine x_gName ?_); (try dsimp only [L2.wipe, List.set_cons_zero, List.set_cons_succ]))))
local macro_rules | `(tactic| walk_at "gon") => `(tactic| repeat (first
  | walk_at "go1"
  | ((with_reducible refine x_lenT (sqT (by assumption)) ?_); (try simp only [List.length_cons, List.length_nil, List.length_map]))
  | ((with_reducible refine x_lenL (sqL (by assumption)) ?_); (try simp only [List.length_cons, List.length_nil, List.length_map]))
  | (with_reducible refine x_ixT (sqT (by assumption)) (by with_unfolding_all exact rfl) ?_)
  | (with_reducible refine x_ixL (sqL (by assumption)) (by with_unfolding_all exact rfl) ?_)
  | ((with_reducible refine x_rI ?c ?_); (case c => walk_at "num"))
  | ((with_reducible refine x_gName ?_); (try dsimp only [L2.wipe, List.set_cons_zero, List.set_cons_succ]))
  | with_reducible refine i_t rfl ?_ | with_reducible refine i_f (fun e => absurd (V.int.inj e) (by omega)) ?_ | with_reducible refine i_t (congrArg V.int (by omega)) ?_ | with_reducible refine i_f (by decide +kernel) ?_ | with_reducible refine i_nt rfl ?_ | with_reducible refine i_nt (congrArg V.int (by omega)) ?_ | with_reducible refine i_nf (fun e => absurd (V.int.inj e) (by omega)) ?_
  | with_reducible refine i_t (by omega) ?_ | with_reducible refine i_f (by omega) ?_ | with_reducible refine i_nt (by omega) ?_ | with_reducible refine i_nf (by omega) ?_ | dsimp only))

structure T1 (P : Program) (w : World) (K : PySem.W.Frag) (mg : Str → Option Value) (base : Heap) : Prop extends Bl mg where
  c_is_int : C8.Cal P w K mg base 1 "is_int" spIsInt []
  c_is_name : C8.Cal P w K mg base 1 "is_name" spName []
abbrev s_is_int : Stmt := top 11
theorem sc_is_int : FnScope ["value"] ["value"] (C8.fnScope s_is_int) := C8.fnScope_by (by decide +kernel)
theorem c_is_int (D : DefX K mg "is_int" s_is_int) (T : Bl mg) : C8.Cal P w K mg base 1 "is_int" spIsInt [] := by
  refine cal_of D sc_is_int (fun _ _ _ _ _ _ us hl => match us, hl with | [_], _ => rfl) (fun vs H Q E h => ?_) (fun f cdv A outer s H vs Q E hr h => ?_)
  · obtain ⟨i, rfl, _⟩ := h
    rfl
  · obtain ⟨i, rfl, q⟩ := h
    have nd := sc_is_int.nd
    refine ⟨_, (pss_one (ps_ret (pe_and (pe_callB call_isi (by rfl) T.b_isinstance (by decide +kernel) (pa_cons (pv 0) (pa_cons (pe_bltn (v := .ty "int") (by rfl) T.b_int (by decide +kernel) rfl) pa_nil))) (pe_one (pe_not (pe_callB call_isi (by rfl) T.b_isinstance (by decide +kernel) (pa_cons (pv 0) (pa_cons (pe_bltn (v := .ty "bool") (by rfl) T.b_bool (by decide +kernel) rfl) pa_nil)))))))), ?_⟩
    walk_at "in"
    walk_at "gon"
    exact q
abbrev s_is_name : Stmt := top 13
theorem sc_is_name : FnScope ["value", "sign"] ["value"] (C8.fnScope s_is_name) := C8.fnScope_by (by decide +kernel)
theorem c_is_name (D : DefX K mg "is_name" s_is_name) (T : Bl mg) : C8.Cal P w K mg base 1 "is_name" spName [] := by
  refine cal_of D sc_is_name (fun _ _ _ _ _ _ us hl => match us, hl with | [_], _ => rfl) (fun vs H Q E h => ?_) (fun f cdv A outer s H vs Q E hr h => ?_)
  · obtain ⟨z, rfl, _⟩ := h
    rfl
  · obtain ⟨z, rfl, ⟨h1, h8, hz⟩, q⟩ := h
    have nd := sc_is_name.nd
    refine ⟨_, (pss_one (ps_ret (pe_and (pe_callB call_isi (by rfl) T.b_isinstance (by decide +kernel) (pa_cons (pv 0) (pa_cons (pe_bltn (v := .ty "str") (by rfl) T.b_str (by decide +kernel) rfl) pa_nil))) (pe_and (pe_chain op_le op_le pe_int (pe_callB call_len_str' (by rfl) T.b_len (by decide +kernel) (pa_cons (pv 0) pa_nil)) pe_int) (pe_one (pe_callB (cr_all rfl) (by rfl) T.b_all (by decide +kernel) (pa_cons (pe_lc (own := [("sign", 1)]) (g := (gName 1)) rfl nd (pi_str (pv 0)) (blkOk_by (N := _) (by rfl)) (fun _ _ _ _ _ => (pg_name (i := 1) nd rfl (Or.inl rfl))) (fun _ _ _ _ _ => pts_nil) (fun _ _ _ _ _ => (pe_chain op_le_str op_le_str pe_str (pv 1) pe_str))) pa_nil))))))), ?_⟩
    walk_at "in"
    walk_at "gon"
    refine x_lenS (len_le (by omega)) ?_
    walk_at "gon"
    refine ⟨_, rfl, z, rfl, fun Da hD => lc_rel walk_str z.cps.toList (by simp) (len_le (by show z.length ≤ _; omega)) (fun _ v _ => v = .bl true) (fun _ _ _ _ _ e => e) hD (fun _ _ => True.intro) ?_ ?_⟩
    · rintro i c x H2 H3 hc s2 ⟨rfl, c', hc', rfl⟩
      have ec : c' = c := by
        rw [Array.getElem?_toList] at hc
        exact Option.some.inj (hc'.symm.trans hc)
      subst ec
      refine ⟨fun _ _ e => e, fun k z1 fin => ?_⟩
      obtain ⟨lo, hi⟩ := hz c' (List.mem_of_getElem? hc)
      refine x_gName ⟨rfl, ?_⟩
      walk_at "gon"
      refine i_bt (a_le lo) ?_
      walk_at "gon"
      rw [le_z hi]
      exact fin _ _ (fun _ _ e => e) rfl
    · intro H2 acc s2 ha pr
      refine x_allT ha (fun v hv => ?_) (q _ s2)
      obtain ⟨j, hj⟩ := List.getElem?_of_mem hv
      obtain ⟨_, _, e⟩ := pr_at pr hj
      exact e
structure T2 (P : Program) (w : World) (K : PySem.W.Frag) (mg : Str → Option Value) (base : Heap) : Prop extends T1 P w K mg base where
  c_is_share : C8.Cal P w K mg base 2 "is_share" spShare []
  c_are_anchors : C8.Cal P w K mg base 2 "_are_anchors" spAnchors []
abbrev s_is_share : Stmt := top 14
theorem sc_is_share : FnScope ["value"] ["value"] (C8.fnScope s_is_share) := C8.fnScope_by (by decide +kernel)
theorem c_is_share (D : DefX K mg "is_share" s_is_share) (T : T1 P w K mg base) : C8.Cal P w K mg base 2 "is_share" spShare [] := by
  refine cal_of D sc_is_share (fun _ _ _ _ _ _ us hl => match us, hl with | [_], _ => rfl) (fun vs H Q E h => ?_) (fun f cdv A outer s H vs Q E hr h => ?_)
  · obtain ⟨i, rfl, _⟩ := h
    rfl
  · obtain ⟨i, rfl, ⟨h0, h1⟩, q⟩ := h
    have nd := sc_is_share.nd
    refine ⟨_, (pss_one (ps_ret (pe_and (C8.pe_c T.c_is_int hr (by decide) (by rfl) (pa_cons (pv 0) pa_nil)) (pe_one (pe_chain op_le op_le pe_int (pv 0) pe_int))))), ?_⟩
    walk_at "in"
    walk_at "gon"
    refine ⟨i, rfl, ?_⟩
    walk_at "gon"
    rw [decide_eq_true h1]
    exact q
abbrev s_are_anchors : Stmt := top 18
theorem sc_are_anchors : FnScope ["value", "name"] ["value"] (C8.fnScope s_are_anchors) := C8.fnScope_by (by decide +kernel)
theorem c_are_anchors (D : DefX K mg "_are_anchors" s_are_anchors) (T : T1 P w K mg base) : C8.Cal P w K mg base 2 "_are_anchors" spAnchors [] := by
  refine cal_of D sc_are_anchors (fun _ _ _ _ _ _ us hl => match us, hl with | [_], _ => rfl) (fun vs H Q E h => ?_) (fun f cdv A outer s H vs Q E hr h => ?_)
  · obtain ⟨a, xs, rfl, _⟩ := h
    rfl
  · obtain ⟨a, xs, rfl, ha, ⟨h0, h1, h2, h3⟩, q⟩ := h
    have hp : 0 < xs.length := List.length_pos_iff.mpr h0
    have nd := sc_are_anchors.nd
    refine ⟨_, (pss_cons (ps_if (PW.pt (pw_or (pt_not (pt_val (pe_callB call_isi (by rfl) T.b_isinstance (by decide +kernel) (pa_cons (pv 0) (pa_cons (pe_bltn (v := .ty "tuple") (by rfl) T.b_tuple (by decide +kernel) rfl) pa_nil))))) (pw_or1 (pt_cmpR op_eq (pe_callB call_len_seq' (by rfl) T.b_len (by decide +kernel) (pa_cons (pv 0) pa_nil)) pe_int (nomark _))))) (pss_one (ps_ret pe_bl)) pss_nil)
  (pss_one (ps_ret (pe_and (pe_callB (cr_all rfl) (by rfl) T.b_all (by decide +kernel) (pa_cons (pe_lc (own := [("name", 1)]) (g := (gName 1)) rfl nd (pi_tup (pv 0)) (blkOk_by (N := _) (by rfl)) (fun _ _ _ _ _ => (pg_name (i := 1) nd rfl (Or.inl rfl))) (fun _ _ _ _ _ => pts_nil) (fun _ _ _ _ _ => (C8.pe_c T.c_is_name hr (by decide) (by rfl) (pa_cons (pv 1) pa_nil)))) pa_nil)) (pe_one (pe_cmpR op_eq (pe_lenSetS rfl (by rfl) T.b_len (by rfl) T.b_set (pv 0)) (pe_callB call_len_seq' (by rfl) T.b_len (by decide +kernel) (pa_cons (pv 0) pa_nil)) (nomark _))))))), ?_⟩
    walk_at "in"
    walk_at "gon"
    refine ⟨_, rfl, a, rfl, ⟨_, sqT ha⟩, fun Da hD => lc_rel walk_tup xs (by simp) (len_le (by rw [List.length_map]; omega)) (fun _ v _ => v = .bl true) (fun _ _ _ _ _ e => e) hD (fun _ e => sqT (e _ _ ha)) ?_ ?_⟩
    · rintro i x v H2 H3 hx s2 ⟨rfl, hv⟩
      rw [List.getElem?_map, hx] at hv
      obtain rfl := Option.some.inj hv
      refine ⟨fun _ _ e => e, fun k z1 fin => ?_⟩
      refine x_gName ⟨rfl, ?_⟩
      walk_at "gon"
      exact ⟨x, rfl, h3 x (List.mem_of_getElem? hx), fun H4 s4 => fin _ _ s4 rfl⟩
    · intro H2 acc s2 hacc pr
      walk_at "gon"
      refine x_allT hacc (fun v hv => ?_) ?_
      · obtain ⟨j, hj⟩ := List.getElem?_of_mem hv
        obtain ⟨_, _, e⟩ := pr_at pr hj
        exact e
      · walk_at "gon"
        refine ⟨a, xs, rfl, sqT (s2 _ _ ha), h2, by omega, ?_⟩
        walk_at "gon"
        refine x_lenT (sqT (s2 _ _ ha)) ?_
        walk_at "gon"
        rw [List.length_map, decide_eq_true rfl]
        exact q _ s2
abbrev s_is_lay : Stmt := top 15
theorem sc_is_lay : FnScope ["value"] ["value"] (C8.fnScope s_is_lay) := C8.fnScope_by (by decide +kernel)
theorem c_is_lay (D : DefX K mg "is_lay" s_is_lay) (T : T2 P w K mg base) : C8.Cal P w K mg base 3 "is_lay" spIsLay [] := by
  refine cal_of D sc_is_lay (fun _ _ _ _ _ _ us hl => match us, hl with | [_], _ => rfl) (fun vs H Q E h => ?_) (fun f cdv A outer s H vs Q E hr h => ?_)
  · obtain ⟨v, l, rfl, _⟩ := h
    rfl
  · obtain ⟨v, l, rfl, hl, ok, q⟩ := h
    have nd := sc_is_lay.nd
    refine ⟨_, (pss_cons (ps_if (pt_not (pt_val (pe_callB call_isi (by rfl) T.b_isinstance (by decide +kernel) (pa_cons (pv 0) (pa_cons (pe_bltn (v := .ty "tuple") (by rfl) T.b_tuple (by decide +kernel) rfl) pa_nil))))) (pss_one (ps_ret pe_bl)) pss_nil)
  (pss_cons (ps_if (pt_cmpR op_eq (pe_callB call_len_seq' (by rfl) T.b_len (by decide +kernel) (pa_cons (pv 0) pa_nil)) pe_int (nomark _)) (pss_one (ps_ret (pe_cmpR op_eq (pe_ix (show IxR _ (rIxT K) from ix_tup) (pv 0) pe_int (fun _ _ => rfl)) pe_str (nomark _)))) pss_nil)
  (pss_cons (ps_if (PW.pt (pw_and (pt_cmpR op_eq (pe_callB call_len_seq' (by rfl) T.b_len (by decide +kernel) (pa_cons (pv 0) pa_nil)) pe_int (nomark _)) (pw_and1 (pt_cmpR op_eq (pe_ix (show IxR _ (rIxT K) from ix_tup) (pv 0) pe_int (fun _ _ => rfl)) pe_str (nomark _))))) (pss_one (ps_ret (C8.pe_c T.c_are_anchors hr (by decide) (by rfl) (pa_cons (pe_ix (show IxR _ (rIxT K) from ix_tup) (pv 0) pe_int (fun _ _ => rfl)) pa_nil)))) pss_nil)
  (pss_cons (ps_if (pt_cmpR op_eq (pe_callB call_len_seq' (by rfl) T.b_len (by decide +kernel) (pa_cons (pv 0) pa_nil)) pe_int (nomark _)) (pss_one (ps_ret (pe_and (pe_cmpR op_eq (pe_ix (show IxR _ (rIxT K) from ix_tup) (pv 0) pe_int (fun _ _ => rfl)) pe_str (nomark _)) (pe_one (C8.pe_c T.c_is_name hr (by decide) (by rfl) (pa_cons (pe_ix (show IxR _ (rIxT K) from ix_tup) (pv 0) pe_int (fun _ _ => rfl)) pa_nil)))))) pss_nil)
  (pss_one (ps_ret (pe_and (pe_cmpR op_eq (pe_callB call_len_seq' (by rfl) T.b_len (by decide +kernel) (pa_cons (pv 0) pa_nil)) pe_int (nomark _)) (pe_and (pe_cmpR op_eq (pe_ix (show IxR _ (rIxT K) from ix_tup) (pv 0) pe_int (fun _ _ => rfl)) pe_str (nomark _)) (pe_and (C8.pe_c T.c_is_name hr (by decide) (by rfl) (pa_cons (pe_ix (show IxR _ (rIxT K) from ix_tup) (pv 0) pe_int (fun _ _ => rfl)) pa_nil)) (pe_and (C8.pe_c T.c_is_int hr (by decide) (by rfl) (pa_cons (pe_ix (show IxR _ (rIxT K) from ix_tup) (pv 0) pe_int (fun _ _ => rfl)) pa_nil)) (pe_one (pe_chain op_le op_le pe_int (pe_ix (show IxR _ (rIxT K) from ix_tup) (pv 0) pe_int (fun _ _ => rfl)) pe_int)))))))))))), ?_⟩
    walk_at "in"
    cases l with
    | now =>
      obtain ⟨a, rfl, ha⟩ := hl
      walk_at "gon"
      exact q _ fun _ _ e => e
    | behind xs =>
      obtain ⟨a, b, rfl, ha, hb⟩ := hl
      walk_at "gon"
      exact ⟨b, xs, rfl, hb, ok, q⟩
    | beside x =>
      obtain ⟨a, rfl, ha⟩ := hl
      walk_at "gon"
      exact ⟨x, rfl, ok, q⟩
    | split x k =>
      obtain ⟨a, rfl, ha⟩ := hl
      obtain ⟨ok, k1, k2⟩ := ok
      walk_at "gon"
      refine ⟨x, rfl, ok, fun H2 s2 => ?_⟩
      have ha2 := s2 _ _ ha
      walk_at "gon"
      refine ⟨k, rfl, ?_⟩
      walk_at "gon"
      rw [decide_eq_true k2]
      exact q _ s2
abbrev s_is_line : Stmt := top 16
theorem sc_is_line : FnScope ["value"] ["value"] (C8.fnScope s_is_line) := C8.fnScope_by (by decide +kernel)
structure T3 (P : Program) (w : World) (K : PySem.W.Frag) (mg : Str → Option Value) (base : Heap) : Prop extends T2 P w K mg base where
  c_is_lay : C8.Cal P w K mg base 3 "is_lay" spIsLay []
theorem c_is_line (D : DefX K mg "is_line" s_is_line) (T : T3 P w K mg base) : C8.Cal P w K mg base 4 "is_line" spIsLine [] := by
  refine cal_of D sc_is_line (fun _ _ _ _ _ _ us hl => match us, hl with | [_], _ => rfl) (fun vs H Q E h => ?_) (fun f cdv A outer s H vs Q E hr h => ?_)
  · obtain ⟨v, r, rfl, _⟩ := h
    rfl
  · obtain ⟨v, r, rfl, ⟨a, l, rfl, ha, hl⟩, ⟨o1, o2, o3⟩, q⟩ := h
    have nd := sc_is_line.nd
    refine ⟨_, (pss_cons (ps_if (PW.pt (pw_or (pt_not (pt_val (pe_callB call_isi (by rfl) T.b_isinstance (by decide +kernel) (pa_cons (pv 0) (pa_cons (pe_bltn (v := .ty "tuple") (by rfl) T.b_tuple (by decide +kernel) rfl) pa_nil))))) (pw_or1 (pt_cmpR op_ne (pe_callB call_len_seq' (by rfl) T.b_len (by decide +kernel) (pa_cons (pv 0) pa_nil)) pe_int (nomark _))))) (pss_one (ps_ret pe_bl)) pss_nil)
  (pss_one (ps_ret (pe_and (C8.pe_c T.c_is_name hr (by decide) (by rfl) (pa_cons (pe_ix (show IxR _ (rIxT K) from ix_tup) (pv 0) pe_int (fun _ _ => rfl)) pa_nil)) (pe_and (C8.pe_c T.c_is_lay hr (by decide) (by rfl) (pa_cons (pe_ix (show IxR _ (rIxT K) from ix_tup) (pv 0) pe_int (fun _ _ => rfl)) pa_nil)) (pe_one (C8.pe_c T.c_is_share hr (by decide) (by rfl) (pa_cons (pe_ix (show IxR _ (rIxT K) from ix_tup) (pv 0) pe_int (fun _ _ => rfl)) pa_nil)))))))), ?_⟩
    walk_at "in"
    walk_at "gon"
    refine ⟨_, rfl, o1, fun H2 s2 => ?_⟩
    have ha2 := s2 _ _ ha
    walk_at "gon"
    refine ⟨_, _, rfl, LayAt.mono (sameT s2) hl, o2, fun H3 s3 => ?_⟩
    have ha3 := s3 _ _ ha2
    walk_at "gon"
    exact ⟨_, rfl, o3, q _ (s2.trans s3)⟩
abbrev s_anchors_of : Stmt := top 17
theorem sc_anchors_of : FnScope ["lay"] ["lay"] (C8.fnScope s_anchors_of) := C8.fnScope_by (by decide +kernel)
theorem c_anchors_of (D : DefX K mg "anchors_of" s_anchors_of) (T : Bl mg) : C8.Cal P w K mg base 1 "anchors_of" spAnchorsOf [] := by
  refine cal_of D sc_anchors_of (fun _ _ _ _ _ _ us hl => match us, hl with | [_], _ => rfl) (fun vs H Q E h => ?_) (fun f cdv A outer s H vs Q E hr h => ?_)
  · obtain ⟨v, l, rfl, _⟩ := h
    rfl
  · obtain ⟨v, l, rfl, hl, q⟩ := h
    have nd := sc_anchors_of.nd
    refine ⟨_, (pss_cons (ps_if (pt_cmpR op_eq (pe_ix (show IxR _ (rIxT K) from ix_tup) (pv 0) pe_int (fun _ _ => rfl)) pe_str (nomark _)) (pss_one (ps_ret (pe_tup pa_nil))) pss_nil)
  (pss_cons (ps_if (pt_cmpR op_eq (pe_ix (show IxR _ (rIxT K) from ix_tup) (pv 0) pe_int (fun _ _ => rfl)) pe_str (nomark _)) (pss_one (ps_ret (pe_ix (show IxR _ (rIxT K) from ix_tup) (pv 0) pe_int (fun _ _ => rfl)))) pss_nil)
  (pss_one (ps_ret (pe_tup (pa_cons (pe_ix (show IxR _ (rIxT K) from ix_tup) (pv 0) pe_int (fun _ _ => rfl)) pa_nil)))))), ?_⟩
    walk_at "in"
    cases l with
    | now =>
      obtain ⟨a, rfl, ha⟩ := hl
      walk_at "gon"
      exact ⟨len_le (by simp), fun p hp => q p _ (same_new hp) upd_same⟩
    | behind xs =>
      obtain ⟨a, b, rfl, ha, hb⟩ := hl
      walk_at "gon"
      exact q b _ (fun _ _ e => e) hb
    | beside x =>
      obtain ⟨a, rfl, ha⟩ := hl
      walk_at "gon"
      exact ⟨len_le (by simp), fun p hp => q p _ (same_new hp) upd_same⟩
    | split x k =>
      obtain ⟨a, rfl, ha⟩ := hl
      walk_at "gon"
      exact ⟨len_le (by simp), fun p hp => q p _ (same_new hp) upd_same⟩
end
end Tm
set_option maxRecDepth 100000
set_option maxHeartbeats 4000000
namespace Tm
open PySem PySem.Spec PyProof.Rows L2
section
variable {P : Program} {w : World} {K : PySem.W.Frag} {mg : Str → Option Value} {base : Heap}
local macro_rules | `(tactic| walk_at "in") => `(tactic| dsimp only [cxOf, L2.start, List.map, List.length, Nat.reduceAdd, Nat.reduceSub, List.replicate, List.cons_append, List.nil_append])
local macro_rules | `(tactic| walk_at "num") => `(tactic| first
  | exact Or.inl ⟨by omega, by omega⟩ | exact Or.inr ⟨by omega, by omega⟩ | exact ⟨by omega, by omega⟩ | exact ⟨by decide, by decide, by omega⟩ | (show (0 : Int) < _; omega))
local macro_rules | `(tactic| walk_at "go1") => `(tactic| with_reducible first
  | refine x_seq ?_ | refine x_asg ?_ | refine x_ret ?_ | refine x_retN ?_ | refine x_drop ?_ | refine x_next ?_ | refine x_ifS ?_ | refine x_par ?_
  | refine x_var (by with_unfolding_all exact rfl) ?_
  | refine x_C ?_ | refine x_op ?_ | refine x_rI0 ?_ | refine x_un ?_ | refine x_rU ?_ | refine x_cb ?_ | refine x_nil ?_ | refine x_cons ?_ | refine x_test ?_ | refine x_tB ?_ | refine x_bl2 ?_
  | refine x_eq (by with_unfolding_all exact rfl) ?_ | refine x_ne (by with_unfolding_all exact rfl) ?_
  | refine x_and ?_ | refine x_or ?_ | refine x_not ?_ | refine x_andV ?_ | refine x_orV ?_ | refine x_notV ?_ | refine x_if ?_ | refine x_chain ?_ | refine x_tup ?_ | refine x_lst ?_ | refine x_call ?_ | refine x_sl ?_ | refine x_noPart ?_ | refine x_part ?_
  | refine x_int ?_ | refine x_int1 ?_ | refine x_max2 ?_ | refine x_min2 ?_ | refine x_dgetT ?_ | refine x_dputT ?_ | refine x_dinT ?_ | refine x_dnotinT ?_ | refine x_disp ?_ | refine x_pairs ?_ | refine x_pairs0 ?_ | refine x_dnew ?_ | refine x_ckw ?_ | refine x_fldS ?_ | refine x_fld ?_ | refine x_gTup (sqT (by assumption)) (by with_unfolding_all exact rfl) ?_ | refine x_gCons ?_ | refine x_gNil ?_ | refine iteT ?_ | refine x_nbt ?_ | refine i_sn ?_ | refine i_ss ?_ | refine i_nsn ?_ | refine i_nss ?_ | refine x_nbf ?_ | refine iteF ?_
  | refine x_isi_str ?_ | refine x_isi_int ?_ | refine x_isi_intB ?_ | refine x_isi_tup (by assumption) ?_ | refine x_isi_dict (by assumption) ?_ | refine x_st2 ?_ | refine x_yes ?_ | refine x_yes2 ?_ | refine x_lenSet ?_)
local macro_rules | `(tactic| walk_at "go") => `(tactic| repeat (first
  | walk_at "go1"
  | ((with_reducible refine x_rI ?c ?_); (case c => walk_at "num"))
  | ((with_reducible refine x_gName ?_); (try dsimp only [L2.wipe, List.set_cons_zero, List.set_cons_succ]))))
local macro_rules | `(tactic| walk_at "gon") => `(tactic| repeat (first
  | walk_at "go1"
  | ((with_reducible refine x_lenT (sqT (by assumption)) ?_); (try simp only [List.length_cons, List.length_nil, List.length_map]))
  | ((with_reducible refine x_lenL (sqL (by assumption)) ?_); (try simp only [List.length_cons, List.length_nil, List.length_map]))
  | (with_reducible refine x_ixT (sqT (by assumption)) (by with_unfolding_all exact rfl) ?_)
  | (with_reducible refine x_ixL (sqL (by assumption)) (by with_unfolding_all exact rfl) ?_)
  | ((with_reducible refine x_rI ?c ?_); (case c => walk_at "num"))
  | ((with_reducible refine x_gName ?_); (try dsimp only [L2.wipe, List.set_cons_zero, List.set_cons_succ]))
  | with_reducible refine i_t rfl ?_ | with_reducible refine i_f (fun e => absurd (V.int.inj e) (by omega)) ?_ | with_reducible refine i_t (congrArg V.int (by omega)) ?_ | with_reducible refine i_f (by decide +kernel) ?_ | with_reducible refine i_nt rfl ?_ | with_reducible refine i_nt (congrArg V.int (by omega)) ?_ | with_reducible refine i_nf (fun e => absurd (V.int.inj e) (by omega)) ?_
  | with_reducible refine i_t (by omega) ?_ | with_reducible refine i_f (by omega) ?_ | with_reducible refine i_nt (by omega) ?_ | with_reducible refine i_nf (by omega) ?_ | dsimp only))

structure T4 (P : Program) (w : World) (K : PySem.W.Frag) (mg : Str → Option Value) (base : Heap) : Prop extends T3 P w K mg base where
  c_is_line : C8.Cal P w K mg base 4 "is_line" spIsLine []
  c_anchors_of : C8.Cal P w K mg base 1 "anchors_of" spAnchorsOf []
theorem kit_lt {K : PySem.W.Frag} : PySem.W.kitAny K (.type "list") [.type "list", .type "tuple"] = some true := kitAny_cons (b := true) (kit_ty (by decide +kernel)) (fun e => nomatch e) (fun _ => rfl)
theorem kit_tt {K : PySem.W.Frag} : PySem.W.kitAny K (.type "tuple") [.type "list", .type "tuple"] = some true :=
  kitAny_cons (b := false) (kit_ty (by decide +kernel)) (fun _ => kitAny_cons (b := true) (kit_ty (by decide +kernel)) (fun e => nomatch e) (fun _ => rfl)) (fun e => nomatch e)
abbrev s_check_rows : Stmt := top 19
theorem sc_check_rows : FnScope ["lines", "number", "line"] ["lines"] (C8.fnScope s_check_rows) := C8.fnScope_by (by decide +kernel)
theorem c_check_rows (D : DefX K mg "_check_rows" s_check_rows) (T : T4 P w K mg base) : C8.Cal P w K mg base 5 "_check_rows" (spCheckRows K) [] := by
  refine cal_of D sc_check_rows (fun _ _ _ _ _ _ us hl => match us, hl with | [_], _ => rfl) (fun vs H Q E h => ?_) (fun f cdv A outer s H vs Q E hr h => ?_)
  · obtain ⟨a, vs, rows, rfl, _⟩ := h
    rfl
  · obtain ⟨a, vs, rows, rfl, ha, hrows, ok, q⟩ := h
    have nd := sc_check_rows.nd
    refine ⟨_, (pss_cons (ps_if (pt_not (pt_val (pe_callB call_isiT (by rfl) T.b_isinstance (by decide +kernel) (pa_cons (pv 0) (pa_cons (pe_tup (pa_cons (pe_bltn (v := .ty "list") (by rfl) T.b_list (by decide +kernel) rfl) (pa_cons (pe_bltn (v := .ty "tuple") (by rfl) T.b_tuple (by decide +kernel) rfl) pa_nil))) pa_nil))))) pss_never pss_nil)
  (pss_one (ps_for PassesOwn.never rfl (pi_enum (by rfl) T.b_enumerate (pa_cons (pv 0) pa_nil)) (pg_tup (n := 2) rfl (pgs_cons (pg_name (i := 1) nd rfl (Or.inl rfl)) (pgs_cons (pg_name (i := 2) nd rfl (Or.inl rfl)) pgs_nil)))
  (pss_one (ps_if (pt_not (pt_val (C8.pe_c T.c_is_line hr (by decide) (by rfl) (pa_cons (pv 2) pa_nil)))) pss_never pss_nil))))), ?_⟩
    walk_at "in"
    walk_at "gon"
    refine ⟨len_le (by simp), fun p hp => ?_⟩
    have s1 : Same H (upd H p (.tup [V.ty "list", V.ty "tuple"])) := same_new hp
    have ht : upd H p (.tup [V.ty "list", V.ty "tuple"]) p = some (.tup [V.ty "list", V.ty "tuple"]) := upd_same
    generalize upd H p (.tup [V.ty "list", V.ty "tuple"]) = H1 at s1 ht ⊢
    have ha1 := s1 _ _ ha
    walk_at "gon"
    refine x_isi2 ht (.base (.lst ha1)) (.ty _) (.ty _) kit_lt ?_
    walk_at "gon"
    refine ⟨_, rfl, a, vs, rfl, sqL ha1, for_it (walk_enum (K := K) (a := a) (xs := vs)) (fun i σ' H' => ∃ v1 v2, σ' = [some (.ref a), v1, v2] ∧ Same H H') ⟨_, _, rfl, s1⟩ ?_ ?_ ?_⟩
    · rintro i σ' H' _ ⟨v1, v2, rfl, sH⟩
      exact sqL (sH _ _ ha)
    · rintro i x σ' H2 H3 hi ⟨v1, v2, rfl, sH⟩ ⟨t, n, v, rfl, fresh, rfl, hn, hv⟩
      obtain ⟨r, hr1, rowat⟩ := pr_at hrows hv
      obtain rfl := Option.some.inj hn
      have s3 : Same H (upd H2 t (.tup [V.int i, v])) := same_newT sH fresh
      have ht3 : upd H2 t (.tup [V.int i, v]) t = some (.tup [V.int i, v]) := upd_same
      generalize upd H2 t (.tup [V.int i, v]) = H3 at s3 ht3 ⊢
      walk_at "gon"
      refine ⟨v, r, rfl, RowAt.mono (sameT s3) rowat, ok r (List.mem_of_getElem? hr1), fun H4 s4 => ?_⟩
      walk_at "gon"
      exact ⟨_, _, rfl, s3.trans s4⟩
    · rintro σ' H' ⟨v1, v2, rfl, sH⟩
      exact q H' sH
abbrev s_check_names : Stmt := top 20
theorem sc_check_names : FnScope ["lines", "earlier", "name", "lay", "_", "anchor"] ["lines"] (C8.fnScope s_check_names) := C8.fnScope_by (by decide +kernel)
theorem c_check_names (D : DefX K mg "_check_names" s_check_names) (T : T4 P w K mg base) : C8.Cal P w K mg base 2 "_check_names" spCheckNames [] := by
  refine cal_of D sc_check_names (fun _ _ _ _ _ _ us hl => match us, hl with | [_], _ => rfl) (fun vs H Q E h => ?_) (fun f cdv A outer s H vs Q E hr h => ?_)
  · obtain ⟨a, vs, rows, rfl, _⟩ := h
    rfl
  · obtain ⟨a, vs, rows, rfl, ha, hrows, few, ok, q⟩ := h
    have nd := sc_check_names.nd
    have hu := hu_of hr
    refine ⟨_, (pss_cons (ps_set (i := 1) nd rfl (Or.inl rfl) pe_dnewK)
  (pss_one (ps_for PassesOwn.never rfl (pi_list (pv 0)) (pg_tup (n := 3) rfl (pgs_cons (pg_name (i := 2) nd rfl (Or.inl rfl)) (pgs_cons (pg_name (i := 3) nd rfl (Or.inl rfl)) (pgs_cons (pg_name (i := 4) nd rfl (Or.inl rfl)) pgs_nil))))
  (pss_cons (ps_if (pt_cmp (pc_din hu (pv 2) (pv 1)) (by rfl)) pss_never pss_nil)
  (pss_cons (ps_for PassesOwn.never rfl (pi_tup (C8.pe_c T.c_anchors_of hr (by decide) (by rfl) (pa_cons (pv 3) pa_nil))) (pg_name (i := 5) nd rfl (Or.inl rfl))
  (pss_one (ps_if (pt_cmp (pc_dnotin hu (pv 5) (pv 1)) (by rfl)) pss_never pss_nil)))
  (pss_one (ps_dput hu (pv 1) (pv 2) pe_bl rfl))))))), ?_⟩
    walk_at "in"
    walk_at "gon"
    intro p hp
    walk_at "gon"
    refine ⟨_, rfl, a, rfl, ⟨vs, sqL (same_new hp _ _ ha)⟩, for_it (walk_list (K := K) (a := a) (xs := vs)) (fun i σ' H' => ∃ v1 v2 v3 v4, σ' = [some (.ref a), some (.ref p), v1, v2, v3, v4] ∧ Same H H' ∧ H' p = some (.dK (ent ((names rows).take i))))
      ⟨_, _, _, _, rfl, same_new hp, upd_same⟩ ?_ ?_ ?_⟩
    · rintro i σ' H' _ ⟨v1, v2, v3, v4, rfl, sH, _⟩
      exact sqL (sH _ _ ha)
    · rintro i x σ' H2 H3 hi ⟨v1, v2, v3, v4, rfl, sH, hd⟩ ⟨rfl, hv⟩
      obtain ⟨r, hr1, b, l, rfl, hb, hl⟩ := pr_at hrows hv
      have hb3 := sH _ _ hb
      have hl3 := LayAt.mono (sameT sH) hl
      have hn : (names rows)[i]? = some r.name := by
        unfold names
        rw [List.getElem?_map, hr1]
        rfl
      have out := not_before ok.unlike hn
      walk_at "gon"
      refine x_dinN hd (ent_out out) ?_
      walk_at "gon"
      refine ⟨_, rfl, l, r.lay, rfl, hl3, fun c H4 s4 hc => ⟨c, rfl, ⟨_, sqT hc⟩, ?_⟩⟩
      have hd4 := s4 _ _ hd
      refine for_it (walk_tup (K := K) (a := c) (xs := r.lay.anchors.map V.str)) (fun j σ' H' => ∃ v5, σ' = [some (.ref a), some (.ref p), some (.str r.name), some l, some (.int r.need), v5] ∧ Same H4 H') ⟨_, rfl, fun _ _ e => e⟩ ?_ ?_ ?_
      · rintro j σ' H' _ ⟨v5, rfl, sJ⟩
        exact sqT (sJ _ _ hc)
      · rintro j y σ' H5 H6 hj ⟨v5, rfl, sJ⟩ ⟨rfl, hy⟩
        rw [List.getElem?_map] at hy
        obtain ⟨z, hz, rfl⟩ := Option.map_eq_some_iff.mp hy
        walk_at "gon"
        refine x_dinY (sJ _ _ hd4) (ent_in (ok.back i r hr1 z (List.mem_of_getElem? hz))) ?_
        walk_at "gon"
        exact ⟨_, rfl, sJ⟩
      · rintro σ' H5 ⟨v5, rfl, sJ⟩
        walk_at "gon"
        refine x_dput (sJ _ _ hd4) (by rw [ent_len]; exact Nat.lt_of_le_of_lt (List.length_take_le ..) (by rw [sizeLine_eq]; have := pr_len hrows; omega)) ?_
        rw [ent_put out, ← take_snoc hn]
        exact ⟨_, _, _, _, rfl, same_put (sH.trans (s4.trans sJ)) hp, upd_same⟩
    · rintro σ' H' ⟨v1, v2, v3, v4, rfl, sH, _⟩
      exact q H' sH
abbrev s_check_quashed : Stmt := top 21
theorem sc_check_quashed : FnScope ["quashed", "names", "name"] ["quashed", "names"] (C8.fnScope s_check_quashed) := C8.fnScope_by (by decide +kernel)
theorem c_check_quashed (D : DefX K mg "_check_quashed" s_check_quashed) (T : Bl mg) : C8.Cal P w K mg base 1 "_check_quashed" (spCheckQuashed K) [] := by
  refine cal_of D sc_check_quashed (fun _ _ _ _ _ _ us hl => match us, hl with | [_, _], _ => rfl) (fun vs H Q E h => ?_) (fun f cdv A outer s H vs Q E hr h => ?_)
  · obtain ⟨a, b, gone, all, rfl, _⟩ := h
    rfl
  · obtain ⟨a, b, gone, all, rfl, ha, hb, few, ud, ok, q⟩ := h
    have nd := sc_check_quashed.nd
    refine ⟨_, (pss_cons (ps_if (PW.pt (pw_or (pt_not (pt_val (pe_callB call_isiT (by rfl) T.b_isinstance (by decide +kernel) (pa_cons (pv 0) (pa_cons (pe_tup (pa_cons (pe_bltn (v := .ty "list") (by rfl) T.b_list (by decide +kernel) rfl) (pa_cons (pe_bltn (v := .ty "tuple") (by rfl) T.b_tuple (by decide +kernel) rfl) pa_nil))) pa_nil))))) (pw_or1 (pt_not (pt_val (pe_callB (cr_all rfl) (by rfl) T.b_all (by decide +kernel) (pa_cons (pe_lc (own := [("name", 2)]) (g := (gName 2)) rfl nd (pi_tup (pv 0)) (blkOk_by (N := _) (by rfl)) (fun _ _ _ _ _ => (pg_name (i := 2) nd rfl (Or.inl rfl))) (fun _ _ _ _ _ => pts_nil) (fun _ _ _ _ _ => (pe_cmpR (show OpR _ (compareOp .In) (rIn K false) from op_in_seq) (pv 2) (pv 1) (by rfl)))) pa_nil))))))) pss_never pss_nil)
  (pss_one (ps_if (pt_cmpR op_lt (pe_lenSetS rfl (by rfl) T.b_len (by rfl) T.b_set (pv 0)) (pe_callB call_len_seq' (by rfl) T.b_len (by decide +kernel) (pa_cons (pv 0) pa_nil)) (nomark _)) pss_never pss_nil))), ?_⟩
    walk_at "in"
    walk_at "gon"
    refine ⟨len_le (by simp), fun p hp => ?_⟩
    have s1 : Same H (upd H p (.tup [V.ty "list", V.ty "tuple"])) := same_new hp
    have ht : upd H p (.tup [V.ty "list", V.ty "tuple"]) p = some (.tup [V.ty "list", V.ty "tuple"]) := upd_same
    generalize upd H p (.tup [V.ty "list", V.ty "tuple"]) = H1 at s1 ht ⊢
    have ha1 := sqT_same s1 ha
    walk_at "gon"
    refine x_isi2 ht (ty_tup ha1) (.ty _) (.ty _) kit_tt ?_
    walk_at "gon"
    refine ⟨_, rfl, a, rfl, ⟨_, ha1⟩, fun Da hD => lc_rel (walk_tup (K := K) (a := a) (xs := gone.map V.str)) gone (by simp) (len_le (by rw [List.length_map]; omega)) (fun _ v _ => v = .bl true) (fun _ _ _ _ _ e => e) hD (fun _ e => sqT_same e ha1) ?_ ?_⟩
    · rintro i x v H2 H3 hx s2 ⟨rfl, hv⟩
      rw [List.getElem?_map, hx] at hv
      obtain rfl := Option.some.inj hv
      refine ⟨fun _ _ e => e, fun k z1 fin => ?_⟩
      refine x_gName ⟨rfl, ?_⟩
      walk_at "gon"
      refine x_inL (sqL (s2 _ _ (s1 _ _ hb))) (ok x (List.mem_of_getElem? hx)) ?_
      exact fin _ _ (fun _ _ e => e) rfl
    · intro H2 acc s2 hacc pr
      walk_at "gon"
      refine x_allT hacc (fun v hv => ?_) ?_
      · obtain ⟨j, hj⟩ := List.getElem?_of_mem hv
        obtain ⟨_, _, e⟩ := pr_at pr hj
        exact e
      · have ha2 := sqT_same s2 ha1
        walk_at "gon"
        refine ⟨a, gone, rfl, ha2, ud, by omega, ?_⟩
        walk_at "gon"
        refine x_lenT ha2 ?_
        rw [List.length_map]
        walk_at "gon"
        exact q _ (s1.trans s2)
end
end Tm
set_option maxRecDepth 100000
set_option maxHeartbeats 4000000
namespace Tm
open PySem PySem.Spec PyProof.Rows L2
section
variable {P : Program} {w : World} {K : PySem.W.Frag} {mg : Str → Option Value} {base : Heap}
local macro_rules | `(tactic| walk_at "in") => `(tactic| dsimp only [cxOf, L2.start, List.map, List.length, Nat.reduceAdd, Nat.reduceSub, List.replicate, List.cons_append, List.nil_append])
local macro_rules | `(tactic| walk_at "num") => `(tactic| first
  | exact Or.inl ⟨by omega, by omega⟩ | exact Or.inr ⟨by omega, by omega⟩ | exact ⟨by omega, by omega⟩ | exact ⟨by decide, by decide, by omega⟩ | (show (0 : Int) < _; omega))
local macro_rules | `(tactic| walk_at "go1") => `(tactic| with_reducible first
  | refine x_seq ?_ | refine x_asg ?_ | refine x_ret ?_ | refine x_retN ?_ | refine x_drop ?_ | refine x_next ?_ | refine x_ifS ?_ | refine x_par ?_
  | refine x_var (by with_unfolding_all exact rfl) ?_
  | refine x_C ?_ | refine x_op ?_ | refine x_rI0 ?_ | refine x_un ?_ | refine x_rU ?_ | refine x_cb ?_ | refine x_nil ?_ | refine x_cons ?_ | refine x_test ?_ | refine x_tB ?_ | refine x_bl2 ?_
  | refine x_eq (by with_unfolding_all exact rfl) ?_ | refine x_ne (by with_unfolding_all exact rfl) ?_
  | refine x_and ?_ | refine x_or ?_ | refine x_not ?_ | refine x_andV ?_ | refine x_orV ?_ | refine x_notV ?_ | refine x_if ?_ | refine x_chain ?_ | refine x_tup ?_ | refine x_lst ?_ | refine x_call ?_ | refine x_sl ?_ | refine x_noPart ?_ | refine x_part ?_
  | refine x_int ?_ | refine x_int1 ?_ | refine x_max2 ?_ | refine x_min2 ?_ | refine x_dgetT ?_ | refine x_dputT ?_ | refine x_dinT ?_ | refine x_dnotinT ?_ | refine x_disp ?_ | refine x_pairs ?_ | refine x_pairs0 ?_ | refine x_dnew ?_ | refine x_ckw ?_ | refine x_fldS ?_ | refine x_fld ?_ | refine x_gTup (sqT (by assumption)) (by with_unfolding_all exact rfl) ?_ | refine x_gCons ?_ | refine x_gNil ?_ | refine iteT ?_ | refine x_nbt ?_ | refine i_sn ?_ | refine i_ss ?_ | refine i_nsn ?_ | refine i_nss ?_ | refine x_nbf ?_ | refine iteF ?_
  | refine x_isi_str ?_ | refine x_isi_int ?_ | refine x_isi_intB ?_ | refine x_isi_tup (by assumption) ?_ | refine x_isi_dict (by assumption) ?_ | refine x_st2 ?_ | refine x_yes ?_ | refine x_yes2 ?_ | refine x_lenSet ?_)
local macro_rules | `(tactic| walk_at "go") => `(tactic| repeat (first
  | walk_at "go1"
  | ((with_reducible refine x_rI ?c ?_); (case c => walk_at "num"))
  | ((with_reducible refine x_gName ?_); (try dsimp only [L2.wipe, List.set_cons_zero, List.set_cons_succ]))))
local macro_rules | `(tactic| walk_at "gon") => `(tactic| repeat (first
  | walk_at "go1"
  | ((with_reducible refine x_lenT (sqT (by assumption)) ?_); (try simp only [List.length_cons, List.length_nil, List.length_map]))
  | ((with_reducible refine x_lenL (sqL (by assumption)) ?_); (try simp only [List.length_cons, List.length_nil, List.length_map]))
  | (with_reducible refine x_ixT (sqT (by assumption)) (by with_unfolding_all exact rfl) ?_)
  | (with_reducible refine x_ixL (sqL (by assumption)) (by with_unfolding_all exact rfl) ?_)
  | ((with_reducible refine x_rI ?c ?_); (case c => walk_at "num"))
  | ((with_reducible refine x_gName ?_); (try dsimp only [L2.wipe, List.set_cons_zero, List.set_cons_succ]))
  | with_reducible refine i_t rfl ?_ | with_reducible refine i_f (fun e => absurd (V.int.inj e) (by omega)) ?_ | with_reducible refine i_t (congrArg V.int (by omega)) ?_ | with_reducible refine i_f (by decide +kernel) ?_ | with_reducible refine i_nt rfl ?_ | with_reducible refine i_nt (congrArg V.int (by omega)) ?_ | with_reducible refine i_nf (fun e => absurd (V.int.inj e) (by omega)) ?_
  | with_reducible refine i_t (by omega) ?_ | with_reducible refine i_f (by omega) ?_ | with_reducible refine i_nt (by omega) ?_ | with_reducible refine i_nf (by omega) ?_ | dsimp only))

/-- the package's checks -/
structure T7 (P : Program) (w : World) (K : PySem.W.Frag) (mg : Str → Option Value) (base : Heap) : Prop extends T4 P w K mg base where
  c_check_rows : C8.Cal P w K mg base 5 "_check_rows" (spCheckRows K) []
  c_check_names : C8.Cal P w K mg base 2 "_check_names" spCheckNames []
  c_check_quashed : C8.Cal P w K mg base 1 "_check_quashed" (spCheckQuashed K) []
/-- what the top has of the class -/
structure Sht (K : PySem.W.Frag) (mg : Str → Option Value) (C : Addr) : Prop where
  cl : Cls K C
  mgS : mg "Sheet" = some (.ref C)
  aL : NoAttr K C "_lines"
  aQ : NoAttr K C "_quashed"
def flds (l q : Addr) : List (Str × V) := [("_lines", .ref l), ("_quashed", .ref q)]
/-- a sheet in the heap: its rows, its quashed names -/
def SheetAt (K : PySem.W.Frag) (C : Addr) (H : Hp) (p : Addr) (rows : List Row) (gone : List Str) : Prop :=
  ∃ dx l q vs, H p = some (.ins C dx (flds l q)) ∧ H l = some (.lst vs) ∧ RowsAt H vs rows ∧ SqT K H q (gone.map V.str)
theorem SheetAt.mono {K : PySem.W.Frag} {C : Addr} {H H' : Hp} {p : Addr} {rows : List Row} {gone : List Str} (s : Same H H') : SheetAt K C H p rows gone → SheetAt K C H' p rows gone
  | ⟨dx, l, q, vs, h1, h2, h3, h4⟩ => ⟨dx, l, q, vs, s _ _ h1, s _ _ h2, RowsAt.mono (sameT s) h3, sqT_same s h4⟩
/-- what a call of Sheet asks -/
structure Asked (K : PySem.W.Frag) (H : Hp) (l q : Addr) (vs : List V) (rows : List Row) (gone : List Str) : Prop where
  hl : H l = some (.lst vs)
  rowsAt : RowsAt H vs rows
  few : rows.length < 60
  ok : Named rows
  hq : SqT K H q (gone.map V.str)
  ud : gone.Nodup
  sub : ∀ x ∈ gone, x ∈ names rows
theorem Asked.mono {K : PySem.W.Frag} {H H' : Hp} {l q : Addr} {vs : List V} {rows : List Row} {gone : List Str} (s : Same H H') (a : Asked K H l q vs rows gone) : Asked K H' l q vs rows gone :=
  ⟨s _ _ a.hl, RowsAt.mono (sameT s) a.rowsAt, a.few, a.ok, sqT_same s a.hq, a.ud, a.sub⟩
theorem Asked.less {K : PySem.W.Frag} {H : Hp} {l q : Addr} {vs : List V} {rows : List Row} {gone : List Str} (a : Asked K H l q vs rows gone) : gone.length < 60 := by
  have := nat_sub_len a.ud a.sub
  unfold names at this
  rw [List.length_map] at this
  exact Nat.lt_of_le_of_lt this a.few
def spInit (K : PySem.W.Frag) (C : Addr) : Sp := fun ws H Q _ => ∃ (x dx l q : Addr) (vs : List V) (rows : List Row) (gone : List Str), ws = [.ref x, .ref l, .ref q] ∧ H x = some (.ins C dx []) ∧ Asked K H l q vs rows gone ∧
  ∀ H' ys, (∀ b o, b ≠ x → H b = some o → H' b = some o) → ys.Perm gone → SheetAt K C H' x rows ys → Q .non H'
abbrev s_Sheet___init__ : Stmt := inClass (top 22) 0
theorem sc_Sheet___init__ : FnScope ["self", "lines", "quashed", "line"] ["self", "lines", "quashed"] (C8.fnScope s_Sheet___init__) := C8.fnScope_by (by decide +kernel)
/-- the function of a def with defaults, walked -/
theorem fnD {x qual : Str} {st : Stmt} {f : Addr} {fd : FuncData} {dvs : List V} {kws : List (Str × V)} {N ps : List Str} {k : Nat} {sp : Sp} (F : FunD K x qual (C8.fnArgs st) (C8.fnBody st) (C8.fnScope st) dvs kws f fd) (S : FnScope N ps (C8.fnScope st)) (len : ∀ vs H Q E, sp vs H Q E → vs.length = ps.length)
    (hbody : ∀ (cdv : Value) (A : Around) (outer : List Env) (s : Shared) (H : Hp) (vs : List V) (Q : VK) (E : XK), Room k (A.deeper (envOfC qual (C8.fnScope st) s.heap.objs.size f cdv)) → sp vs H Q E →
      ∃ t, PSs (cxOf C8.CX0 P w K mg base N qual (C8.fnScope st) f cdv A outer s H E).nox (C8.fnBody st) t ∧ t { nx := fun _ H' => Q .non H', rt := Q } (start N vs) H) : FnOk P w K mg base C8.CX0 (k + 1) f fd ps sp :=
  F.ok S len fun cdv A outer s H vs Q E hr h => by
    obtain ⟨t, h1, h2⟩ := hbody cdv A outer s H vs Q E hr h
    exact ⟨t, h1.nox, h2⟩
structure Ini (K : PySem.W.Frag) (C f : Addr) (fd : FuncData) (e : Addr) : Prop where
  mkr : Mk K C f
  fn : FunD K "__init__" "Sheet.__init__" (C8.fnArgs s_Sheet___init__) (C8.fnBody s_Sheet___init__) (C8.fnScope s_Sheet___init__) [] [("quashed", .ref e)] f fd
  em : ∀ H : Hp, SqT K H e []
theorem ini_binds {C f e : Addr} {fd : FuncData} (I : Ini K C f fd e) : ∃ ds, Vals [V.ref e] ds ∧ Binds K fd ["self", "lines", "quashed"] ds :=
  I.fn.binds0 (ps := ["self", "lines", "quashed"]) 2 (by simp) rfl fun D doc pm an cdv ct us ks hl hk => match us, ks, hl, hk with | [_, _], [_], _, _ => ⟨_, _, _, _, _, _, rfl, rfl, rfl⟩
theorem ini_kbinds {C f e : Addr} {fd : FuncData} (I : Ini K C f fd e) : KBn K fd ["self", "lines", "quashed"] 2 ["quashed"] (fun us ws => us ++ ws) (fun vs zs => vs ++ zs) := by
  obtain ⟨mv, k⟩ := I.fn.kbinds0 (ps := ["self", "lines", "quashed"]) 2 ["quashed"] [] (fun us _ ws => us ++ ws) (by simp) (fun q h => nomatch h) (fun r1 _ r3 => r1.append r3)
    (fun D doc pm an cdv ct us mv ws h1 h2 h3 => match us, mv, ws, h1, h2, h3 with | [_, _], [], [_], _, _, _ => rfl)
  exact k
theorem ok_init {C f e : Addr} {fd : FuncData} (I : Ini K C f fd e) (Z : Sht K mg C) (T : T7 P w K mg base) : FnOk P w K mg base C8.CX0 6 f fd ["self", "lines", "quashed"] (spInit K C) := by
  refine fnD I.fn sc_Sheet___init__ (fun vs H Q E h => ?_) (fun cdv A outer s H vs Q E hr h => ?_)
  · obtain ⟨x, dx, l, q, vs, rows, gone, rfl, _⟩ := h
    rfl
  · obtain ⟨x, dx, l, q, vs, rows, gone, rfl, hx, hA, qq⟩ := h
    have nd := sc_Sheet___init__.nd
    refine ⟨_, (pss_cons (ps_expr (C8.pe_c T.c_check_rows hr (by decide) (by rfl) (pa_cons (pv 1) pa_nil)))
  (pss_cons (ps_expr (C8.pe_c T.c_check_names hr (by decide) (by rfl) (pa_cons (pv 1) pa_nil)))
  (pss_cons (ps_expr (C8.pe_c T.c_check_quashed hr (by decide) (by rfl) (pa_cons (pv 2) (pa_cons (pe_lc (own := [("line", 3)]) (g := (gName 3)) rfl nd (pi_list (pv 1)) (blkOk_by (N := _) (by rfl)) (fun _ _ _ _ _ => (pg_name (i := 3) nd rfl (Or.inl rfl))) (fun _ _ _ _ _ => pts_nil) (fun _ _ _ _ _ => (pe_ix (show IxR _ (rIxT K) from ix_tup) (pv 3) pe_int (fun _ _ => rfl)))) pa_nil))))
  (pss_cons (ps_fld (pv 0) (pe_callTy call_list_of' (by rfl) T.b_list (by decide +kernel) (pa_cons (pv 1) pa_nil)) rfl)
  (pss_one (ps_fld (pv 0) (pe_callTy call_tuple_of (by rfl) T.b_tuple (by decide +kernel) (pa_cons (pe_callB cr_sortedTS (by rfl) T.b_sorted (by decide +kernel) (pa_cons (pv 2) pa_nil)) pa_nil)) rfl)))))), ?_⟩
    walk_at "in"
    walk_at "gon"
    refine ⟨l, vs, rows, rfl, hA.hl, hA.rowsAt, hA.ok.ok, fun H1 s1 => ?_⟩
    have A1 := hA.mono s1
    walk_at "gon"
    refine ⟨l, vs, rows, rfl, A1.hl, A1.rowsAt, by have := A1.few; omega, A1.ok, fun H2 s2 => ?_⟩
    have A2 := A1.mono s2
    walk_at "gon"
    have many := pr_len A2.rowsAt
    refine ⟨_, rfl, l, rfl, ⟨_, sqL A2.hl⟩, fun Da hD => lc_rel (walk_list (K := K) (a := l) (xs := vs)) rows many.symm (len_le (by have := A2.few; omega)) (fun _ v r => v = .str r.name) (fun _ _ _ _ _ e => e) hD (fun _ e => sqL (e _ _ A2.hl)) ?_ ?_⟩
    · rintro i r v H3 H4 hr s3 ⟨rfl, hv⟩
      refine ⟨fun _ _ e => e, fun k z1 fin => ?_⟩
      obtain ⟨r', hr', b, lv, rfl, hb, hl⟩ := pr_at A2.rowsAt hv
      obtain rfl := Option.some.inj (hr.symm.trans hr')
      have hb3 := s3 _ _ hb
      refine x_gName ⟨rfl, ?_⟩
      walk_at "gon"
      exact fin _ _ (fun _ _ e => e) rfl
    · intro H3 acc s3 hacc pr
      rw [acc_names pr] at hacc
      have A3 := A2.mono s3
      walk_at "gon"
      refine ⟨q, Da, gone, names rows, rfl, A3.hq, hacc, by have := A3.less; omega, A3.ud, A3.sub, fun H4 s4 => ?_⟩
      have A4 := A3.mono s4
      have hx4 := s4 _ _ (s3 _ _ (s2 _ _ (s1 _ _ hx)))
      walk_at "gon"
      refine x_listL (sqL A4.hl) fun l2 hl2 => ?_
      walk_at "gon"
      have ne2 : x ≠ l2 := ne_of_none hx4 hl2
      refine ⟨x, C, dx, [], rfl, by rw [upd_ne ne2]; exact hx4, Z.cl, Z.aL, by simp, ?_⟩
      have u5 : But x H4 (upd (upd H4 l2 (.lst vs)) x (.ins C dx (putF "_lines" (.ref l2) []))) := (but_new hl2).trans but_at
      have hx5 : upd (upd H4 l2 (.lst vs)) x (.ins C dx (putF "_lines" (.ref l2) [])) x = some (.ins C dx [("_lines", .ref l2)]) := upd_same
      have hl5 : upd (upd H4 l2 (.lst vs)) x (.ins C dx (putF "_lines" (.ref l2) [])) l2 = some (.lst vs) := by rw [upd_ne (Ne.symm ne2)]; exact upd_same
      generalize upd (upd H4 l2 (.lst vs)) x (.ins C dx (putF "_lines" (.ref l2) [])) = H5 at u5 hx5 hl5 ⊢
      walk_at "gon"
      refine ⟨q, gone, rfl, sqT_but hx4 u5 A4.hq, by have := A4.less; omega, fun ys p perm hp => ?_⟩
      walk_at "gon"
      refine ⟨p, ys.map V.str, rfl, .inl ⟨sqL upd_same, fun q2 hq2 => ?_⟩⟩
      walk_at "gon"
      have u6 : Same H5 (upd (upd H5 p (.lst (ys.map V.str))) q2 (.tup (ys.map V.str))) := (same_new hp).trans (same_new hq2)
      have hq6 : upd (upd H5 p (.lst (ys.map V.str))) q2 (.tup (ys.map V.str)) q2 = some (.tup (ys.map V.str)) := upd_same
      generalize upd (upd H5 p (.lst (ys.map V.str))) q2 (.tup (ys.map V.str)) = H6 at u6 hq6 ⊢
      refine ⟨x, C, dx, _, rfl, u6 _ _ hx5, Z.cl, Z.aQ, by simp, ?_⟩
      have neq : q2 ≠ x := fun z => by
        rw [z, u6 _ _ hx5] at hq6
        cases hq6
      have u7 : But x H (upd H6 x (.ins C dx (putF "_quashed" (.ref q2) [("_lines", .ref l2)]))) := (but_same (s1.trans (s2.trans (s3.trans s4)))).trans (u5.trans ((but_same u6).trans but_at))
      refine qq _ ys u7 perm ⟨dx, l2, q2, vs, upd_same, ?_, RowsAt.mono (sameT_but hx u7) hA.rowsAt, sqT ?_⟩
      · rw [upd_ne (Ne.symm ne2)]
        exact u6 _ _ hl5
      · rw [upd_ne neq]
        exact hq6
end
end Tm
set_option maxRecDepth 100000
set_option maxHeartbeats 4000000
namespace Tm
open PySem PySem.Spec PyProof.Rows L2
section
variable {P : Program} {w : World} {K : PySem.W.Frag} {mg : Str → Option Value} {base : Heap}
local macro_rules | `(tactic| walk_at "in") => `(tactic| dsimp only [cxOf, L2.start, List.map, List.length, Nat.reduceAdd, Nat.reduceSub, List.replicate, List.cons_append, List.nil_append])
local macro_rules | `(tactic| walk_at "num") => `(tactic| first
  | exact Or.inl ⟨by omega, by omega⟩ | exact Or.inr ⟨by omega, by omega⟩ | exact ⟨by omega, by omega⟩ | exact ⟨by decide, by decide, by omega⟩ | (show (0 : Int) < _; omega))
local macro_rules | `(tactic| walk_at "go1") => `(tactic| with_reducible first
  | refine x_seq ?_ | refine x_asg ?_ | refine x_ret ?_ | refine x_retN ?_ | refine x_drop ?_ | refine x_next ?_ | refine x_ifS ?_ | refine x_par ?_
  | refine x_var (by with_unfolding_all exact rfl) ?_
  | refine x_C ?_ | refine x_op ?_ | refine x_rI0 ?_ | refine x_un ?_ | refine x_rU ?_ | refine x_cb ?_ | refine x_nil ?_ | refine x_cons ?_ | refine x_test ?_ | refine x_tB ?_ | refine x_bl2 ?_
  | refine x_eq (by with_unfolding_all exact rfl) ?_ | refine x_ne (by with_unfolding_all exact rfl) ?_
  | refine x_and ?_ | refine x_or ?_ | refine x_not ?_ | refine x_andV ?_ | refine x_orV ?_ | refine x_notV ?_ | refine x_if ?_ | refine x_chain ?_ | refine x_tup ?_ | refine x_lst ?_ | refine x_call ?_ | refine x_sl ?_ | refine x_noPart ?_ | refine x_part ?_
  | refine x_int ?_ | refine x_int1 ?_ | refine x_max2 ?_ | refine x_min2 ?_ | refine x_dgetT ?_ | refine x_dputT ?_ | refine x_dinT ?_ | refine x_dnotinT ?_ | refine x_disp ?_ | refine x_pairs ?_ | refine x_pairs0 ?_ | refine x_dnew ?_ | refine x_ckw ?_ | refine x_fldS ?_ | refine x_fld ?_ | refine x_gTup (sqT (by assumption)) (by with_unfolding_all exact rfl) ?_ | refine x_gCons ?_ | refine x_gNil ?_ | refine iteT ?_ | refine x_nbt ?_ | refine i_sn ?_ | refine i_ss ?_ | refine i_nsn ?_ | refine i_nss ?_ | refine x_nbf ?_ | refine iteF ?_
  | refine x_isi_str ?_ | refine x_isi_int ?_ | refine x_isi_intB ?_ | refine x_isi_tup (by assumption) ?_ | refine x_isi_dict (by assumption) ?_ | refine x_st2 ?_ | refine x_yes ?_ | refine x_yes2 ?_ | refine x_lenSet ?_)
local macro_rules | `(tactic| walk_at "go") => `(tactic| repeat (first
  | walk_at "go1"
  | ((with_reducible refine x_rI ?c ?_); (case c => walk_at "num"))
  | ((with_reducible refine x_gName ?_); (try dsimp only [L2.wipe, List.set_cons_zero, List.set_cons_succ]))))
local macro_rules | `(tactic| walk_at "gon") => `(tactic| repeat (first
  | walk_at "go1"
  | ((with_reducible refine x_lenT (sqT (by assumption)) ?_); (try simp only [List.length_cons, List.length_nil, List.length_map]))
  | ((with_reducible refine x_lenL (sqL (by assumption)) ?_); (try simp only [List.length_cons, List.length_nil, List.length_map]))
  | (with_reducible refine x_ixT (sqT (by assumption)) (by with_unfolding_all exact rfl) ?_)
  | (with_reducible refine x_ixL (sqL (by assumption)) (by with_unfolding_all exact rfl) ?_)
  | ((with_reducible refine x_rI ?c ?_); (case c => walk_at "num"))
  | ((with_reducible refine x_gName ?_); (try dsimp only [L2.wipe, List.set_cons_zero, List.set_cons_succ]))
  | with_reducible refine i_t rfl ?_ | with_reducible refine i_f (fun e => absurd (V.int.inj e) (by omega)) ?_ | with_reducible refine i_t (congrArg V.int (by omega)) ?_ | with_reducible refine i_f (by decide +kernel) ?_ | with_reducible refine i_nt rfl ?_ | with_reducible refine i_nt (congrArg V.int (by omega)) ?_ | with_reducible refine i_nf (fun e => absurd (V.int.inj e) (by omega)) ?_
  | with_reducible refine i_t (by omega) ?_ | with_reducible refine i_f (by omega) ?_ | with_reducible refine i_nt (by omega) ?_ | with_reducible refine i_nf (by omega) ?_ | dsimp only))

/-! ### a sheet made, read -/
structure MakK (P : Program) (w : World) (K : PySem.W.Frag) (mg : Str → Option Value) (base : Heap) (k : Nat) (x : Str) (C : Addr) (n : Nat) (ks : List Str) (sp : Sp) : Prop where
  ex : ∃ (f : Addr) (fd : FuncData) (ps : List Str) (g : List Value → List Value → List Value), Mk K C f ∧ FnOk P w K mg base C8.CX0 k f fd ps sp ∧ mg x = some (.ref C) ∧ KBn K fd ps (n + 1) ks g (fun vs zs => vs ++ zs)
structure PrpOk (P : Program) (w : World) (K : PySem.W.Frag) (mg : Str → Option Value) (base : Heap) (k : Nat) (C : Addr) (f : Str) (sp : Sp) : Prop where
  ex : ∃ (p g : Addr) (fd : FuncData) (ps : List Str), Cls K C ∧ PropOf K C f p g ∧ FnOk P w K mg base C8.CX0 k g fd ps sp ∧ Binds K fd ps []
section
variable {X : Cx} {k j n : Nat} {C : Addr} {x f : Str} {sp : Sp} {p pos : Pos} {e : Expr} {es : List Expr} {kws : List Keyword} {ks : List Str} {ta : TE} {t tk : TA}
theorem pe_mkK (c : MakK X.prog X.w X.K X.mg X.base k x C n ks sp) (hr : Room j X.A) (hk : k + 1 ≤ j) (hg : Gl X x) (ha : PA X (e :: es) t) (hkw : PK X kws tk)
    (hall : (backToKw pos (keywordEach kws X.env)).all (·.1.isSome) = true := by rfl) (hks : (backToKw pos (keywordEach kws X.env)).filterMap (·.1) = ks := by rfl) (hdb : (x == ("__debug__" : Str)) = false := by decide)
    (he : starEach (e :: es) X.env = (false, eval e X.env) :: starEach es X.env := by rfl) (hpl : ((backTo pos (starEach (e :: es) X.env)).any (·.1) || (backToKw pos (keywordEach kws X.env)).any (·.1.isNone)) = false := by rfl) :
    PE X (.Call (.Name x p) (e :: es) kws pos) (tMakeK C n ks.length sp (fun vs zs => vs ++ zs) C8.E0 t tk) := by
  obtain ⟨f, fd, ps, g, M, F, hm, b⟩ := c.ex
  exact pe_makeK M F (hr.mono hk) hg hm b C8.pass0 ha hkw hall hks hdb he hpl
theorem pe_pr (c : PrpOk X.prog X.w X.K X.mg X.base k C f sp) (hr : Room j X.A) (hk : k + 1 ≤ j) (he : PE X e ta) (hab : attributeBase e f X.env (eval e X.env) = eval e X.env) : PE X (.Attribute e f pos) (tProp C sp [] C8.E0 ta) := by
  obtain ⟨q, g, fd, ps, cl, hp, F, b⟩ := c.ex
  exact pe_prop he cl hp F (hr.mono hk) b .nil C8.pass0 hab
end
section
variable {C : Addr} {σ : L2.St} {H : Hp} {Q : VK} {t tk ta : TA} {te : TE} {e l q : Addr} {sp : Sp} {vs : List V} {rows : List Row} {gone : List Str} {E : XK} {dvs : List V} {m : Str}
theorem x_make (h : t σ H fun vs H1 => ∀ x dx, H1 x = none → H1 dx = none → dx ≠ x → sp (.ref x :: (vs ++ dvs)) (upd (upd H1 dx (.own x)) x (.ins C dx [])) (fun v H2 => v = .non ∧ Q (.ref x) H2) E) : tMake C sp dvs E t σ H Q := h
theorem x_makeK {n k : Nat} {gV : List V → List V → List V} (h : t σ H fun vs H1 => tk σ H1 fun zs H2 => vs.length = n ∧ zs.length = k ∧ ∀ x dx, H2 x = none → H2 dx = none → dx ≠ x →
  sp (gV (.ref x :: vs) zs) (upd (upd H2 dx (.own x)) x (.ins C dx [])) (fun v H3 => v = .non ∧ Q (.ref x) H3) E) : tMakeK C n k sp gV E t tk σ H Q := h
theorem x_meth (h : te σ H fun x H1 => ∃ a dx fs, x = .ref a ∧ H1 a = some (.ins C dx fs) ∧ fs.lookup m = none ∧ t σ H1 fun vs H2 => sp (x :: (vs ++ dvs)) H2 Q E) : tMeth C m sp dvs E te t σ H Q := h
theorem x_prop (h : te σ H fun x H1 => ∃ a dx fs, x = .ref a ∧ H1 a = some (.ins C dx fs) ∧ sp (.ref a :: dvs) H1 Q E) : tProp C sp dvs E te σ H Q := h
theorem mkK_in {R : Addr → Hp → Prop} (A : Asked K H l q vs rows gone) (h : ∀ x H' ys, Same H H' → ys.Perm gone → SheetAt K C H' x rows ys → R x H') :
    ∀ x dx, H x = none → H dx = none → dx ≠ x → spInit K C [.ref x, .ref l, .ref q] (upd (upd H dx (.own x)) x (.ins C dx [])) (fun v H2 => v = .non ∧ R x H2) E := by
  intro x dx hx hdx ne
  have hx1 : upd H dx (.own x) x = none := by rw [upd_ne (Ne.symm ne)]; exact hx
  have s1 := same_newT (o := .ins C dx []) (same_new (o := .own x) hdx) hx1
  refine ⟨x, dx, l, q, vs, rows, gone, rfl, upd_same, A.mono s1, fun H' ys u perm sh => ⟨rfl, ?_⟩⟩
  exact h x H' ys (but_back hx s1 u) perm sh
theorem mk_in {R : Addr → Hp → Prop} (A : Asked K H l q vs rows []) (h : ∀ x H', Same H H' → SheetAt K C H' x rows [] → R x H') :
    ∀ x dx, H x = none → H dx = none → dx ≠ x → spInit K C (.ref x :: ([.ref l] ++ [.ref q])) (upd (upd H dx (.own x)) x (.ins C dx [])) (fun v H2 => v = .non ∧ R x H2) E :=
  mkK_in A fun x H' ys s perm sh => h x H' s (by rw [List.Perm.eq_nil perm] at sh; exact sh)
end
def spLines (K : PySem.W.Frag) (C : Addr) : Sp := fun vs H Q _ => ∃ p rows gone, vs = [.ref p] ∧ SheetAt K C H p rows gone ∧ ∀ l ws H', Same H H' → H' l = some (.lst ws) → RowsAt H' ws rows → Q (.ref l) H'
def spNames (K : PySem.W.Frag) (C : Addr) : Sp := fun vs H Q _ => ∃ p rows gone, vs = [.ref p] ∧ SheetAt K C H p rows gone ∧ rows.length < 60 ∧ ∀ l H', Same H H' → H' l = some (.lst ((names rows).map V.str)) → Q (.ref l) H'
def spQuashed (K : PySem.W.Frag) (C : Addr) : Sp := fun vs H Q _ => ∃ p rows gone, vs = [.ref p] ∧ SheetAt K C H p rows gone ∧ ∀ q, SqT K H q (gone.map V.str) → Q (.ref q) H
abbrev s_Sheet_lines : Stmt := inClass (top 22) 1
theorem sc_Sheet_lines : FnScope ["self"] ["self"] (C8.fnScope s_Sheet_lines) := C8.fnScope_by (by decide +kernel)
theorem ok_lines {C g : Addr} {fd : FuncData} (F : C8.Fun K "lines" "Sheet.lines" s_Sheet_lines g fd) (Z : Sht K mg C) (T : Bl mg) : FnOk P w K mg base C8.CX0 1 g fd ["self"] (spLines K C) := by
  refine C8.fn0 F sc_Sheet_lines (fun vs H Q E h => ?_) (fun cdv A outer s H vs Q E hr h => ?_)
  · obtain ⟨p, rows, gone, rfl, _⟩ := h
    rfl
  · obtain ⟨p, rows, gone, rfl, ⟨dx, l, q, vs, h1, h2, h3, h4⟩, qq⟩ := h
    have nd := sc_Sheet_lines.nd
    refine ⟨_, (pss_one (ps_ret (pe_callTy call_list_of' (by rfl) T.b_list (by decide +kernel) (pa_cons (pe_fld (pv 0) rfl) pa_nil)))), ?_⟩
    walk_at "in"
    walk_at "gon"
    refine ⟨p, C, dx, _, _, rfl, h1, Z.cl, Z.aL, rfl, ?_⟩
    walk_at "gon"
    refine x_listL (sqL h2) fun l2 hl2 => ?_
    exact qq l2 vs _ (same_new hl2) upd_same (RowsAt.mono (SameT.new hl2) h3)
abbrev s_Sheet_names : Stmt := inClass (top 22) 2
theorem sc_Sheet_names : FnScope ["self", "line"] ["self"] (C8.fnScope s_Sheet_names) := C8.fnScope_by (by decide +kernel)
theorem ok_names {C g : Addr} {fd : FuncData} (F : C8.Fun K "names" "Sheet.names" s_Sheet_names g fd) (Z : Sht K mg C) (T : Bl mg) : FnOk P w K mg base C8.CX0 1 g fd ["self"] (spNames K C) := by
  refine C8.fn0 F sc_Sheet_names (fun vs H Q E h => ?_) (fun cdv A outer s H vs Q E hr h => ?_)
  · obtain ⟨p, rows, gone, rfl, _⟩ := h
    rfl
  · obtain ⟨p, rows, gone, rfl, ⟨dx, l, q, vs, h1, h2, h3, h4⟩, few, qq⟩ := h
    have nd := sc_Sheet_names.nd
    refine ⟨_, (pss_one (ps_ret (pe_lc (own := [("line", 1)]) (g := (gName 1)) rfl nd (pi_list (pe_fld (pv 0) rfl)) (blkOk_by (N := _) (by rfl)) (fun _ _ _ _ _ => (pg_name (i := 1) nd rfl (Or.inl rfl))) (fun _ _ _ _ _ => pts_nil) (fun _ _ _ _ _ => (pe_ix (show IxR _ (rIxT K) from ix_tup) (pv 1) pe_int (fun _ _ => rfl)))))), ?_⟩
    walk_at "in"
    walk_at "gon"
    have many := pr_len h3
    refine ⟨_, rfl, p, C, dx, _, _, rfl, h1, Z.cl, Z.aL, rfl, l, rfl, ⟨_, sqL h2⟩, fun Da hD => lc_rel (walk_list (K := K) (a := l) (xs := vs)) rows many.symm (len_le (by omega)) (fun _ v r => v = .str r.name) (fun _ _ _ _ _ e => e) hD (fun _ e => sqL (e _ _ h2)) ?_ ?_⟩
    · rintro i r v H3 H4 hr s3 ⟨rfl, hv⟩
      refine ⟨fun _ _ e => e, fun k z1 fin => ?_⟩
      obtain ⟨r', hr', b, lv, rfl, hb, hl⟩ := pr_at h3 hv
      obtain rfl := Option.some.inj (hr.symm.trans hr')
      have hb3 := s3 _ _ hb
      refine x_gName ⟨rfl, ?_⟩
      walk_at "gon"
      exact fin _ _ (fun _ _ e => e) rfl
    · intro H3 acc s3 hacc pr
      rw [acc_names pr] at hacc
      exact qq _ _ s3 hacc
abbrev s_Sheet_quashed : Stmt := inClass (top 22) 3
theorem sc_Sheet_quashed : FnScope ["self"] ["self"] (C8.fnScope s_Sheet_quashed) := C8.fnScope_by (by decide +kernel)
theorem ok_quashed {C g : Addr} {fd : FuncData} (F : C8.Fun K "quashed" "Sheet.quashed" s_Sheet_quashed g fd) (Z : Sht K mg C) (T : Bl mg) : FnOk P w K mg base C8.CX0 1 g fd ["self"] (spQuashed K C) := by
  refine C8.fn0 F sc_Sheet_quashed (fun vs H Q E h => ?_) (fun cdv A outer s H vs Q E hr h => ?_)
  · obtain ⟨p, rows, gone, rfl, _⟩ := h
    rfl
  · obtain ⟨p, rows, gone, rfl, ⟨dx, l, q, vs, h1, h2, h3, h4⟩, qq⟩ := h
    have nd := sc_Sheet_quashed.nd
    refine ⟨_, (pss_one (ps_ret (pe_fld (pv 0) rfl))), ?_⟩
    walk_at "in"
    walk_at "gon"
    exact ⟨p, C, dx, _, _, rfl, h1, Z.cl, Z.aQ, rfl, qq q h4⟩
end
end Tm
set_option maxRecDepth 100000
set_option maxHeartbeats 4000000
namespace Tm
open PySem PySem.Spec PyProof.Rows L2
section
variable {P : Program} {w : World} {K : PySem.W.Frag} {mg : Str → Option Value} {base : Heap}
local macro_rules | `(tactic| walk_at "in") => `(tactic| dsimp only [cxOf, L2.start, List.map, List.length, Nat.reduceAdd, Nat.reduceSub, List.replicate, List.cons_append, List.nil_append])
local macro_rules | `(tactic| walk_at "num") => `(tactic| first
  | exact Or.inl ⟨by omega, by omega⟩ | exact Or.inr ⟨by omega, by omega⟩ | exact ⟨by omega, by omega⟩ | exact ⟨by decide, by decide, by omega⟩ | (show (0 : Int) < _; omega))
local macro_rules | `(tactic| walk_at "go1") => `(tactic| with_reducible first
  | refine x_seq ?_ | refine x_asg ?_ | refine x_ret ?_ | refine x_retN ?_ | refine x_drop ?_ | refine x_next ?_ | refine x_ifS ?_ | refine x_par ?_
  | refine x_var (by with_unfolding_all exact rfl) ?_
  | refine x_C ?_ | refine x_op ?_ | refine x_rI0 ?_ | refine x_un ?_ | refine x_rU ?_ | refine x_cb ?_ | refine x_nil ?_ | refine x_cons ?_ | refine x_test ?_ | refine x_tB ?_ | refine x_bl2 ?_
  | refine x_eq (by with_unfolding_all exact rfl) ?_ | refine x_ne (by with_unfolding_all exact rfl) ?_
  | refine x_and ?_ | refine x_or ?_ | refine x_not ?_ | refine x_andV ?_ | refine x_orV ?_ | refine x_notV ?_ | refine x_if ?_ | refine x_chain ?_ | refine x_tup ?_ | refine x_lst ?_ | refine x_call ?_ | refine x_sl ?_ | refine x_noPart ?_ | refine x_part ?_
  | refine x_int ?_ | refine x_int1 ?_ | refine x_max2 ?_ | refine x_min2 ?_ | refine x_dgetT ?_ | refine x_dputT ?_ | refine x_dinT ?_ | refine x_dnotinT ?_ | refine x_disp ?_ | refine x_pairs ?_ | refine x_pairs0 ?_ | refine x_dnew ?_ | refine x_ckw ?_ | refine x_fldS ?_ | refine x_fld ?_ | refine x_make ?_ | refine x_makeK ?_ | refine x_meth ?_ | refine x_prop ?_ | refine x_gTup (sqT (by assumption)) (by with_unfolding_all exact rfl) ?_ | refine x_gCons ?_ | refine x_gNil ?_ | refine iteT ?_ | refine x_nbt ?_ | refine i_sn ?_ | refine i_ss ?_ | refine i_nsn ?_ | refine i_nss ?_ | refine x_nbf ?_ | refine iteF ?_
  | refine x_isi_str ?_ | refine x_isi_int ?_ | refine x_isi_intB ?_ | refine x_isi_tup (by assumption) ?_ | refine x_isi_dict (by assumption) ?_ | refine x_st2 ?_ | refine x_yes ?_ | refine x_yes2 ?_ | refine x_lenSet ?_)
local macro_rules | `(tactic| walk_at "go") => `(tactic| repeat (first
  | walk_at "go1"
  | ((with_reducible refine x_rI ?c ?_); (case c => walk_at "num"))
  | ((with_reducible refine x_gName ?_); (try dsimp only [L2.wipe, List.set_cons_zero, List.set_cons_succ]))))
local macro_rules | `(tactic| walk_at "gon") => `(tactic| repeat (first
  | walk_at "go1"
  | ((with_reducible refine x_lenT (sqT (by assumption)) ?_); (try simp only [List.length_cons, List.length_nil, List.length_map]))
  | ((with_reducible refine x_lenL (sqL (by assumption)) ?_); (try simp only [List.length_cons, List.length_nil, List.length_map]))
  | (with_reducible refine x_ixT (sqT (by assumption)) (by with_unfolding_all exact rfl) ?_)
  | (with_reducible refine x_ixL (sqL (by assumption)) (by with_unfolding_all exact rfl) ?_)
  | ((with_reducible refine x_rI ?c ?_); (case c => walk_at "num"))
  | ((with_reducible refine x_gName ?_); (try dsimp only [L2.wipe, List.set_cons_zero, List.set_cons_succ]))
  | with_reducible refine i_t rfl ?_ | with_reducible refine i_f (fun e => absurd (V.int.inj e) (by omega)) ?_ | with_reducible refine i_t (congrArg V.int (by omega)) ?_ | with_reducible refine i_f (by decide +kernel) ?_ | with_reducible refine i_nt rfl ?_ | with_reducible refine i_nt (congrArg V.int (by omega)) ?_ | with_reducible refine i_nf (fun e => absurd (V.int.inj e) (by omega)) ?_
  | with_reducible refine i_t (by omega) ?_ | with_reducible refine i_f (by omega) ?_ | with_reducible refine i_nt (by omega) ?_ | with_reducible refine i_nf (by omega) ?_ | dsimp only))

/-- the class, with its makers and readers -/
structure T9 (P : Program) (w : World) (K : PySem.W.Frag) (mg : Str → Option Value) (base : Heap) (C e : Addr) : Prop extends T7 P w K mg base, Sht K mg C where
  em : ∀ H : Hp, SqT K H e []
  v_Sheet : ∃ u, mg "Sheet" = some u ∧ RelV (.ref C) u
  mk_Sheet_1_ : C8.Mak P w K mg base 6 "Sheet" C (spInit K C) [.ref e]
  mk_Sheet_1_quashed : MakK P w K mg base 6 "Sheet" C 1 ["quashed"] (spInit K C)
  p_Sheet_lines : PrpOk P w K mg base 1 C "lines" (spLines K C)
  p_Sheet_names : PrpOk P w K mg base 1 C "names" (spNames K C)
  p_Sheet_quashed : PrpOk P w K mg base 1 C "quashed" (spQuashed K C)
/-- a sheet that may be asked -/
structure Good (K : PySem.W.Frag) (C : Addr) (H : Hp) (p : Addr) (rows : List Row) (gone : List Str) : Prop where
  here : SheetAt K C H p rows gone
  few : rows.length < 60
  ok : Named rows
  ud : gone.Nodup
  sub : ∀ x ∈ gone, x ∈ names rows
theorem Good.mono {C : Addr} {H H' : Hp} {p : Addr} {rows : List Row} {gone : List Str} (s : Same H H') (g : Good K C H p rows gone) : Good K C H' p rows gone := ⟨SheetAt.mono s g.here, g.few, g.ok, g.ud, g.sub⟩
def spQuash (K : PySem.W.Frag) (C : Addr) : Sp := fun vs H Q _ => ∃ p z rows gone, vs = [.ref p, .str z] ∧ Good K C H p rows gone ∧ z ∈ names rows ∧ z ∉ gone ∧ ∀ x ys H', Same H H' → ys.Perm (gone ++ [z]) → Good K C H' x rows ys → Q (.ref x) H'
theorem good_of {C : Addr} {H : Hp} {p : Addr} {rows : List Row} {gone ys : List Str} (perm : ys.Perm gone) (sh : SheetAt K C H p rows ys) (few : rows.length < 60) (ok : Named rows) (ud : gone.Nodup) (sub : ∀ x ∈ gone, x ∈ names rows) : Good K C H p rows ys :=
  ⟨sh, few, ok, perm.nodup_iff.mpr ud, fun x hx => sub x (perm.mem_iff.mp hx)⟩
abbrev s_Sheet_quash : Stmt := inClass (top 22) 8
theorem sc_Sheet_quash : FnScope ["self", "name"] ["self", "name"] (C8.fnScope s_Sheet_quash) := C8.fnScope_by (by decide +kernel)
theorem ok_quash {C e g : Addr} {fd : FuncData} (F : C8.Fun K "quash" "Sheet.quash" s_Sheet_quash g fd) (T : T9 P w K mg base C e) : FnOk P w K mg base C8.CX0 8 g fd ["self", "name"] (spQuash K C) := by
  refine C8.fn0 F sc_Sheet_quash (fun vs H Q E h => ?_) (fun cdv A outer s H vs Q E hr h => ?_)
  · obtain ⟨p, z, rows, gone, rfl, _⟩ := h
    rfl
  · obtain ⟨p, z, rows, gone, rfl, G, hz, out, qq⟩ := h
    obtain ⟨dx, l, q, vs, h1, h2, h3, h4⟩ := id G.here
    have nd := sc_Sheet_quash.nd
    refine ⟨_, (pss_cons (ps_if (pt_cmpR (show OpR _ (compareOp .NotIn) (rIn K true) from op_notIn_seq) (pv 1) (pe_pr T.p_Sheet_names hr (by decide) (pv 0) rfl) (by rfl)) pss_never pss_nil)
  (pss_cons (ps_if (pt_cmpR (show OpR _ (compareOp .In) (rIn K false) from op_in_seq) (pv 1) (pe_fld (pv 0) rfl) (by rfl)) pss_never pss_nil)
  (pss_one (ps_ret (pe_mkK T.mk_Sheet_1_quashed hr (by decide) (by rfl) (pa_cons (pe_fld (pv 0) rfl) pa_nil) (pk_cons (pe_op op_catA (pe_fld (pv 0) rfl) (pe_tup (pa_cons (pv 1) pa_nil))) pk_nil)))))), ?_⟩
    walk_at "in"
    walk_at "gon"
    refine ⟨p, dx, _, rfl, h1, p, rows, gone, rfl, G.here, G.few, fun l1 H1 s1 hl1 => ?_⟩
    walk_at "gon"
    refine x_ninL (sqL hl1) ?_
    rw [decide_eq_true hz]
    walk_at "gon"
    refine ⟨p, C, dx, _, _, rfl, s1 _ _ h1, T.cl, T.aQ, rfl, ?_⟩
    walk_at "gon"
    refine x_inT (sqT_same s1 h4) ?_
    rw [decide_eq_false out]
    walk_at "gon"
    refine ⟨p, C, dx, _, _, rfl, s1 _ _ h1, T.cl, T.aL, rfl, ?_⟩
    walk_at "gon"
    refine ⟨p, C, dx, _, _, rfl, s1 _ _ h1, T.cl, T.aQ, rfl, ?_⟩
    walk_at "gon"
    refine ⟨len_le (by simp), fun a ha => ?_⟩
    walk_at "gon"
    have ud : (gone ++ [z]).Nodup := by
      rw [List.nodup_append]
      exact ⟨G.ud, by simp, fun a ha b hb e => out (by rw [List.mem_singleton] at hb; rw [← hb, ← e]; exact ha)⟩
    have sub : ∀ x ∈ gone ++ [z], x ∈ names rows := fun x hx => by
      rcases List.mem_append.mp hx with q | q
      · exact G.sub x q
      · rw [List.mem_singleton] at q
        rw [q]
        exact hz
    have s2 := s1.trans (same_new (o := .tup [.str z]) ha)
    have many := nat_sub_len G.ud G.sub
    have small : gone.length < 60 := by
      have := G.few
      unfold names at many
      rw [List.length_map] at many
      omega
    have fin : ∀ (q2 : Addr) (H2 : Hp), Same H H2 → SqT K H2 q2 ((gone ++ [z]).map V.str) → ∀ x dx, H2 x = none → H2 dx = none → dx ≠ x →
        spInit K C [.ref x, .ref l, .ref q2] (upd (upd H2 dx (.own x)) x (.ins C dx [])) (fun v H3 => v = .non ∧ Q (.ref x) H3) C8.E0 := fun q2 H2 s2 hq2 =>
      mkK_in ⟨s2 _ _ h2, RowsAt.mono (sameT s2) h3, G.few, G.ok, hq2, ud, sub⟩ fun x H' ys s3 perm sh => qq x ys H' (s2.trans s3) perm (good_of perm sh G.few G.ok ud sub)
    refine ⟨q, a, gone.map V.str, [.str z], rfl, rfl, sqT_same s2 h4, sqT upd_same, len_le (by simp; omega), fun e0 => ?_, fun _ e1 => absurd e1 (by simp), fun _ _ c hc => ?_⟩
    · walk_at "gon"
      have e1 : gone = [] := List.map_eq_nil_iff.mp e0
      exact ⟨rfl, rfl, fin a _ s2 (by rw [e1]; exact sqT upd_same)⟩
    · walk_at "gon"
      exact ⟨rfl, rfl, fin c _ (s2.trans (same_new hc)) (sqT (by rw [List.map_append]; exact upd_same))⟩
end
end Tm
set_option maxRecDepth 100000
set_option maxHeartbeats 4000000
namespace Tm
open PySem PySem.Spec PyProof.Rows L2
section
variable {P : Program} {w : World} {K : PySem.W.Frag} {mg : Str → Option Value} {base : Heap}
local macro_rules | `(tactic| walk_at "in") => `(tactic| dsimp only [cxOf, L2.start, List.map, List.length, Nat.reduceAdd, Nat.reduceSub, List.replicate, List.cons_append, List.nil_append])
local macro_rules | `(tactic| walk_at "num") => `(tactic| first
  | exact Or.inl ⟨by omega, by omega⟩ | exact Or.inr ⟨by omega, by omega⟩ | exact ⟨by omega, by omega⟩ | exact ⟨by decide, by decide, by omega⟩ | (show (0 : Int) < _; omega))
local macro_rules | `(tactic| walk_at "go1") => `(tactic| with_reducible first
  | refine x_seq ?_ | refine x_asg ?_ | refine x_ret ?_ | refine x_retN ?_ | refine x_drop ?_ | refine x_next ?_ | refine x_ifS ?_ | refine x_par ?_
  | refine x_var (by with_unfolding_all exact rfl) ?_
  | refine x_C ?_ | refine x_op ?_ | refine x_rI0 ?_ | refine x_un ?_ | refine x_rU ?_ | refine x_cb ?_ | refine x_nil ?_ | refine x_cons ?_ | refine x_test ?_ | refine x_tB ?_ | refine x_bl2 ?_
  | refine x_eq (by with_unfolding_all exact rfl) ?_ | refine x_ne (by with_unfolding_all exact rfl) ?_
  | refine x_and ?_ | refine x_or ?_ | refine x_not ?_ | refine x_andV ?_ | refine x_orV ?_ | refine x_notV ?_ | refine x_if ?_ | refine x_chain ?_ | refine x_tup ?_ | refine x_lst ?_ | refine x_call ?_ | refine x_sl ?_ | refine x_noPart ?_ | refine x_part ?_
  | refine x_int ?_ | refine x_int1 ?_ | refine x_max2 ?_ | refine x_min2 ?_ | refine x_dgetT ?_ | refine x_dputT ?_ | refine x_dinT ?_ | refine x_dnotinT ?_ | refine x_disp ?_ | refine x_pairs ?_ | refine x_pairs0 ?_ | refine x_dnew ?_ | refine x_ckw ?_ | refine x_fldS ?_ | refine x_fld ?_ | refine x_make ?_ | refine x_makeK ?_ | refine x_meth ?_ | refine x_prop ?_ | refine x_gTup (sqT (by assumption)) (by with_unfolding_all exact rfl) ?_ | refine x_gCons ?_ | refine x_gNil ?_ | refine iteT ?_ | refine x_nbt ?_ | refine i_sn ?_ | refine i_ss ?_ | refine i_nsn ?_ | refine i_nss ?_ | refine x_nbf ?_ | refine iteF ?_
  | refine x_isi_str ?_ | refine x_isi_int ?_ | refine x_isi_intB ?_ | refine x_isi_tup (by assumption) ?_ | refine x_isi_dict (by assumption) ?_ | refine x_st2 ?_ | refine x_yes ?_ | refine x_yes2 ?_ | refine x_lenSet ?_)
local macro_rules | `(tactic| walk_at "go") => `(tactic| repeat (first
  | walk_at "go1"
  | ((with_reducible refine x_rI ?c ?_); (case c => walk_at "num"))
  | ((with_reducible refine x_gName ?_); (try dsimp only [L2.wipe, List.set_cons_zero, List.set_cons_succ]))))
local macro_rules | `(tactic| walk_at "gon") => `(tactic| repeat (first
  | walk_at "go1"
  | ((with_reducible refine x_lenT (sqT (by assumption)) ?_); (try simp only [List.length_cons, List.length_nil, List.length_map]))
  | ((with_reducible refine x_lenL (sqL (by assumption)) ?_); (try simp only [List.length_cons, List.length_nil, List.length_map]))
  | (with_reducible refine x_ixT (sqT (by assumption)) (by with_unfolding_all exact rfl) ?_)
  | (with_reducible refine x_ixL (sqL (by assumption)) (by with_unfolding_all exact rfl) ?_)
  | ((with_reducible refine x_rI ?c ?_); (case c => walk_at "num"))
  | ((with_reducible refine x_gName ?_); (try dsimp only [L2.wipe, List.set_cons_zero, List.set_cons_succ]))
  | with_reducible refine i_t rfl ?_ | with_reducible refine i_f (fun e => absurd (V.int.inj e) (by omega)) ?_ | with_reducible refine i_t (congrArg V.int (by omega)) ?_ | with_reducible refine i_f (by decide +kernel) ?_ | with_reducible refine i_nt rfl ?_ | with_reducible refine i_nt (congrArg V.int (by omega)) ?_ | with_reducible refine i_nf (fun e => absurd (V.int.inj e) (by omega)) ?_
  | with_reducible refine i_t (by omega) ?_ | with_reducible refine i_f (by omega) ?_ | with_reducible refine i_nt (by omega) ?_ | with_reducible refine i_nf (by omega) ?_ | dsimp only))

def spStart : Sp := fun vs H Q _ => ∃ v d l sp, vs = [v, .ref d] ∧ LayAt H v l ∧ l.Ok ∧ SpansAt H d sp ∧ (sp.map Prod.fst).Nodup ∧ (∀ x ∈ l.anchors, x ∈ sp.map Prod.fst) ∧ ans (.int (startOf sp l)) H Q
def spLast : Sp := fun vs H Q _ => ∃ d sp, vs = [.ref d] ∧ SpansAt H d sp ∧ sp.length < 1000 ∧ ans (.int (lastOf sp)) H Q
abbrev s_start : Stmt := top 32
theorem sc_start : FnScope ["lay", "spans", "anchor"] ["lay", "spans"] (C8.fnScope s_start) := C8.fnScope_by (by decide +kernel)
theorem c_start (D : DefX K mg "_start" s_start) (T : Bl mg) : C8.Cal P w K mg base 1 "_start" spStart [] := by
  refine cal_of D sc_start (fun _ _ _ _ _ _ us hl => match us, hl with | [_, _], _ => rfl) (fun vs H Q E h => ?_) (fun f cdv A outer s H vs Q E hr h => ?_)
  · obtain ⟨v, d, l, sp, rfl, _⟩ := h
    rfl
  · obtain ⟨v, d, l, sp, rfl, hl, ok, ⟨kvs, hd, hk⟩, ud, sub, q⟩ := h
    have nd := sc_start.nd
    have hu := hu_of hr
    refine ⟨_, (pss_cons (ps_if (pt_cmpR op_eq (pe_ix (show IxR _ (rIxT K) from ix_tup) (pv 0) pe_int (fun _ _ => rfl)) pe_str (nomark _)) (pss_one (ps_ret pe_int)) pss_nil)
  (pss_cons (ps_if (pt_cmpR op_eq (pe_ix (show IxR _ (rIxT K) from ix_tup) (pv 0) pe_int (fun _ _ => rfl)) pe_str (nomark _)) (pss_one (ps_ret (pe_callB (cr_max rfl) (by rfl) T.b_max (by decide +kernel) (pa_cons (pe_lc (own := [("anchor", 2)]) (g := (gName 2)) rfl nd (pi_tup (pe_ix (show IxR _ (rIxT K) from ix_tup) (pv 0) pe_int (fun _ _ => rfl))) (blkOk_by (N := _) (by rfl)) (fun _ _ _ _ _ => (pg_name (i := 2) nd rfl (Or.inl rfl))) (fun _ _ _ _ _ => pts_nil) (fun _ _ _ _ _ => (pe_ix (show IxR _ (rIxT K) from ix_tup) (pe_dget hu (pv 1) (pv 2) (fun _ _ => rfl)) pe_int (fun _ _ => rfl)))) pa_nil)))) pss_nil)
  (pss_one (ps_ret (pe_ix (show IxR _ (rIxT K) from ix_tup) (pe_dget hu (pv 1) (pe_ix (show IxR _ (rIxT K) from ix_tup) (pv 0) pe_int (fun _ _ => rfl)) (fun _ _ => rfl)) pe_int (fun _ _ => rfl)))))), ?_⟩
    walk_at "in"
    cases l with
    | now =>
      obtain ⟨a, rfl, ha⟩ := hl
      walk_at "gon"
      exact q _ fun _ _ e => e
    | behind xs =>
      obtain ⟨a, b, rfl, ha, hb⟩ := hl
      obtain ⟨k0, k1, k2, k3⟩ := ok
      walk_at "gon"
      refine ⟨_, rfl, a, _, 1, _, rfl, rfl, sqT ha, rfl, b, rfl, ⟨_, sqT hb⟩, fun Da hD => lc_rel (walk_tup (K := K) (a := b) (xs := xs.map V.str)) xs (by simp) (len_le (by rw [List.length_map]; omega)) (fun _ v x => v = .int (endIn sp x)) (fun _ _ _ _ _ e => e) hD (fun _ e => sqT (e _ _ hb)) ?_ ?_⟩
      · rintro i x v H2 H3 hx s2 ⟨rfl, hv⟩
        rw [List.getElem?_map, hx] at hv
        obtain rfl := Option.some.inj hv
        refine ⟨fun _ _ e => e, fun k z1 fin => ?_⟩
        refine x_gName ⟨rfl, ?_⟩
        obtain ⟨t, ht1, ht2⟩ := hk.get ud (sub x (List.mem_of_getElem? hx))
        have ht3 := s2 _ _ ht2
        walk_at "gon"
        refine x_dget (s2 _ _ hd) ht1 ?_
        walk_at "gon"
        exact fin _ _ (fun _ _ e => e) rfl
      · intro H2 acc s2 hacc pr
        have e : acc = (xs.map (endIn sp)).map V.int := by rw [List.map_map]; exact acc_of pr
        rw [e] at hacc
        walk_at "gon"
        refine ⟨Da, xs.map (endIn sp), rfl, sqL hacc, by rw [List.length_map]; exact List.length_pos_iff.mpr k0, fun m hm ub => ?_⟩
        rw [is_max hm ub]
        exact q _ s2
    | beside x =>
      obtain ⟨a, rfl, ha⟩ := hl
      obtain ⟨t, ht1, ht2⟩ := hk.get ud (sub x (.head _))
      walk_at "gon"
      refine x_dget hd ht1 ?_
      walk_at "gon"
      exact q _ fun _ _ e => e
    | split x k =>
      obtain ⟨a, rfl, ha⟩ := hl
      obtain ⟨t, ht1, ht2⟩ := hk.get ud (sub x (.head _))
      walk_at "gon"
      refine x_dget hd ht1 ?_
      walk_at "gon"
      exact q _ fun _ _ e => e
abbrev s_last_stop : Stmt := top 33
theorem sc_last_stop : FnScope ["spans", "_", "stop"] ["spans"] (C8.fnScope s_last_stop) := C8.fnScope_by (by decide +kernel)
theorem c_last_stop (D : DefX K mg "_last_stop" s_last_stop) (T : Bl mg) : C8.Cal P w K mg base 1 "_last_stop" spLast [] := by
  refine cal_of D sc_last_stop (fun _ _ _ _ _ _ us hl => match us, hl with | [_], _ => rfl) (fun vs H Q E h => ?_) (fun f cdv A outer s H vs Q E hr h => ?_)
  · obtain ⟨d, sp, rfl, _⟩ := h
    rfl
  · obtain ⟨d, sp, rfl, ⟨kvs, hd, hk⟩, few, q⟩ := h
    have nd := sc_last_stop.nd
    have hu := hu_of hr
    refine ⟨_, (pss_one (ps_ret (pe_callBK (ks := [Str.ofString "default"]) (cr_maxd rfl) (by rfl) T.b_max (by decide +kernel) (pa_cons (pe_lock (pe_lc (own := [("_", 1), ("stop", 2)]) (g := (gTup K 2 (gCons (gName 1) (gCons (gName 2) gNil)))) rfl nd (pi_values (pv 0)) (blkOk_by (N := _) (by rfl)) (fun _ _ _ _ _ => (pg_tup (n := 2) rfl (pgs_cons (pg_name (i := 1) nd rfl (Or.inl rfl)) (pgs_cons (pg_name (i := 2) nd rfl (Or.inl rfl)) pgs_nil)))) (fun _ _ _ _ _ => pts_nil) (fun _ _ _ _ _ => (pv 2)))) pa_nil) (pk_cons pe_int pk_nil)))), ?_⟩
    walk_at "in"
    walk_at "gon"
    refine ⟨d, .dK kvs, hd, trivial, fun od => ?_⟩
    have many := pr_len hk
    refine ⟨_, rfl, d, od, kvs, rfl, upd_same, fun Da hD => lc_rel (walk_values (d := d) (o := od) (kvs := kvs)) sp many.symm (len_le (by omega)) (fun _ v s => v = .int s.2.2) (fun _ _ _ _ _ e => e) hD (fun _ e => e _ _ upd_same) ?_ ?_⟩
    · rintro i s x H2 H3 hs s2 ⟨rfl, k0, hx⟩
      obtain ⟨s', hs', _, t, rfl, ht⟩ := pr_at hk hx
      obtain rfl := Option.some.inj (hs.symm.trans hs')
      have ht2 : H3 t = some (.tup [.int s.2.1, .int s.2.2]) := s2 _ _ (by rw [upd_ne (fun z => by rw [z, hd] at ht; cases ht)]; exact ht)
      refine ⟨fun _ _ e => e, fun k z1 fin => ?_⟩
      walk_at "gon"
      refine ⟨rfl, ?_⟩
      walk_at "gon"
      exact fin _ _ (fun _ _ e => e) rfl
    · intro H2 acc s2 hacc pr
      have e : acc = (sp.map fun s => s.2.2).map V.int := by rw [List.map_map]; exact acc_of pr
      rw [e] at hacc
      have h2d := s2 _ _ (upd_same (a := d))
      refine ⟨h2d, ?_⟩
      have sU := same_unlock hd s2
      have ne : Da ≠ d := fun z => by
        rw [z, h2d] at hacc
        cases hacc
      walk_at "gon"
      refine ⟨Da, sp.map fun s => s.2.2, _, rfl, rfl, sqL (by rw [upd_ne ne]; exact hacc), fun e0 => ?_, fun m hm ub => ?_⟩
      · have e1 : sp = [] := List.map_eq_nil_iff.mp e0
        subst e1
        exact q _ sU
      · rw [is_max hm ub]
        exact q _ sU
end
end Tm
set_option maxRecDepth 100000
set_option maxHeartbeats 4000000
namespace Tm
open PySem PySem.Spec PyProof.Rows L2
section
variable {P : Program} {w : World} {K : PySem.W.Frag} {mg : Str → Option Value} {base : Heap}
local macro_rules | `(tactic| walk_at "in") => `(tactic| dsimp only [cxOf, L2.start, List.map, List.length, Nat.reduceAdd, Nat.reduceSub, List.replicate, List.cons_append, List.nil_append])
local macro_rules | `(tactic| walk_at "num") => `(tactic| first
  | exact Or.inl ⟨by omega, by omega⟩ | exact Or.inr ⟨by omega, by omega⟩ | exact ⟨by omega, by omega⟩ | exact ⟨by decide, by decide, by omega⟩ | (show (0 : Int) < _; omega))
local macro_rules | `(tactic| walk_at "go1") => `(tactic| with_reducible first
  | refine x_seq ?_ | refine x_asg ?_ | refine x_ret ?_ | refine x_retN ?_ | refine x_drop ?_ | refine x_next ?_ | refine x_ifS ?_ | refine x_par ?_
  | refine x_var (by with_unfolding_all exact rfl) ?_
  | refine x_C ?_ | refine x_op ?_ | refine x_rI0 ?_ | refine x_un ?_ | refine x_rU ?_ | refine x_cb ?_ | refine x_nil ?_ | refine x_cons ?_ | refine x_test ?_ | refine x_tB ?_ | refine x_bl2 ?_
  | refine x_eq (by with_unfolding_all exact rfl) ?_ | refine x_ne (by with_unfolding_all exact rfl) ?_
  | refine x_and ?_ | refine x_or ?_ | refine x_not ?_ | refine x_andV ?_ | refine x_orV ?_ | refine x_notV ?_ | refine x_if ?_ | refine x_chain ?_ | refine x_tup ?_ | refine x_lst ?_ | refine x_call ?_ | refine x_sl ?_ | refine x_noPart ?_ | refine x_part ?_
  | refine x_int ?_ | refine x_int1 ?_ | refine x_max2 ?_ | refine x_min2 ?_ | refine x_dgetT ?_ | refine x_dinT ?_ | refine x_dnotinT ?_ | refine x_disp ?_ | refine x_pairs ?_ | refine x_pairs0 ?_ | refine x_dnew ?_ | refine x_ckw ?_ | refine x_fldS ?_ | refine x_fld ?_ | refine x_make ?_ | refine x_makeK ?_ | refine x_meth ?_ | refine x_prop ?_ | refine x_gTup (sqT (by assumption)) (by with_unfolding_all exact rfl) ?_ | refine x_gCons ?_ | refine x_gNil ?_ | refine iteT ?_ | refine x_nbt ?_ | refine i_sn ?_ | refine i_ss ?_ | refine i_nsn ?_ | refine i_nss ?_ | refine x_nbf ?_ | refine iteF ?_
  | refine x_isi_str ?_ | refine x_isi_int ?_ | refine x_isi_intB ?_ | refine x_isi_tup (by assumption) ?_ | refine x_isi_dict (by assumption) ?_ | refine x_st2 ?_ | refine x_yes ?_ | refine x_yes2 ?_ | refine x_lenSet ?_)
local macro_rules | `(tactic| walk_at "go") => `(tactic| repeat (first
  | walk_at "go1"
  | ((with_reducible refine x_rI ?c ?_); (case c => walk_at "num"))
  | ((with_reducible refine x_gName ?_); (try dsimp only [L2.wipe, List.set_cons_zero, List.set_cons_succ]))))
local macro_rules | `(tactic| walk_at "gon") => `(tactic| repeat (first
  | walk_at "go1"
  | ((with_reducible refine x_lenT (sqT (by assumption)) ?_); (try simp only [List.length_cons, List.length_nil, List.length_map]))
  | ((with_reducible refine x_lenL (sqL (by assumption)) ?_); (try simp only [List.length_cons, List.length_nil, List.length_map]))
  | (with_reducible refine x_ixT (sqT (by assumption)) (by with_unfolding_all exact rfl) ?_)
  | (with_reducible refine x_ixL (sqL (by assumption)) (by with_unfolding_all exact rfl) ?_)
  | ((with_reducible refine x_rI ?c ?_); (case c => walk_at "num"))
  | ((with_reducible refine x_gName ?_); (try dsimp only [L2.wipe, List.set_cons_zero, List.set_cons_succ]))
  | with_reducible refine i_t rfl ?_ | with_reducible refine i_f (fun e => absurd (V.int.inj e) (by omega)) ?_ | with_reducible refine i_t (congrArg V.int (by omega)) ?_ | with_reducible refine i_f (by decide +kernel) ?_ | with_reducible refine i_nt rfl ?_ | with_reducible refine i_nt (congrArg V.int (by omega)) ?_ | with_reducible refine i_nf (fun e => absurd (V.int.inj e) (by omega)) ?_
  | with_reducible refine i_t (by omega) ?_ | with_reducible refine i_f (by omega) ?_ | with_reducible refine i_nt (by omega) ?_ | with_reducible refine i_nf (by omega) ?_ | dsimp only))

def spSpans : Sp := fun vs H Q _ => ∃ l d ws rows ds, vs = [.ref l, .ref d] ∧ H l = some (.lst ws) ∧ RowsAt H ws rows ∧ Named rows ∧ rows.length < 60 ∧ H d = some (.dK (dayEnt ds)) ∧ (∀ x ∈ names rows, x ∈ ds.map Prod.fst) ∧
  ∀ s H', Same H H' → SpansAt H' s (spansOf (dayOf ds) rows) → Q (.ref s) H'
structure T11 (P : Program) (w : World) (K : PySem.W.Frag) (mg : Str → Option Value) (base : Heap) : Prop extends T1 P w K mg base where
  c_start : C8.Cal P w K mg base 1 "_start" spStart []
abbrev s_spans : Stmt := top 31
theorem sc_spans : FnScope ["lines", "days", "spans", "name", "lay", "least", "start", "stop"] ["lines", "days"] (C8.fnScope s_spans) := C8.fnScope_by (by decide +kernel)
theorem c_spans (D : DefX K mg "_spans" s_spans) (T : T11 P w K mg base) : C8.Cal P w K mg base 2 "_spans" spSpans [] := by
  refine cal_of D sc_spans (fun _ _ _ _ _ _ us hl => match us, hl with | [_, _], _ => rfl) (fun vs H Q E h => ?_) (fun f cdv A outer s H vs Q E hr h => ?_)
  · obtain ⟨l, d, ws, rows, ds, rfl, _⟩ := h
    rfl
  · obtain ⟨l, d, ws, rows, ds, rfl, hl, hrows, ok, few, hd, all, q⟩ := h
    have nd := sc_spans.nd
    have hu := hu_of hr
    have many := pr_len hrows
    refine ⟨_, (pss_cons (ps_set (i := 2) nd rfl (Or.inl rfl) pe_dnewK)
  (pss_cons (ps_for PassesOwn.never rfl (pi_list (pv 0)) (pg_tup (n := 3) rfl (pgs_cons (pg_name (i := 3) nd rfl (Or.inl rfl)) (pgs_cons (pg_name (i := 4) nd rfl (Or.inl rfl)) (pgs_cons (pg_name (i := 5) nd rfl (Or.inl rfl)) pgs_nil))))
  (pss_cons (ps_set (i := 6) nd rfl (Or.inl rfl) (C8.pe_c T.c_start hr (by decide) (by rfl) (pa_cons (pv 4) (pa_cons (pv 2) pa_nil))))
  (pss_cons (ps_set (i := 7) nd rfl (Or.inl rfl) (pe_op op_add (pv 6) (pe_op op_mul (pe_op op_mul pe_int (pv 5)) (pe_dget hu (pv 1) (pv 3) (fun _ _ => rfl)))))
  (pss_cons (ps_if (pt_cmpR op_eq (pe_ix (show IxR _ (rIxT K) from ix_tup) (pv 4) pe_int (fun _ _ => rfl)) pe_str (nomark _)) (pss_one (ps_set (i := 7) nd rfl (Or.inl rfl) (pe_callB (call_max2' rfl) (by rfl) T.b_max (by decide +kernel) (pa_cons (pv 7) (pa_cons (pe_op op_add (pe_ix (show IxR _ (rIxT K) from ix_tup) (pe_dget hu (pv 2) (pe_ix (show IxR _ (rIxT K) from ix_tup) (pv 4) pe_int (fun _ _ => rfl)) (fun _ _ => rfl)) pe_int (fun _ _ => rfl)) (pe_op op_mul (pe_op op_mul (pe_ix (show IxR _ (rIxT K) from ix_tup) (pv 4) pe_int (fun _ _ => rfl)) (pv 5)) (pe_dget hu (pv 1) (pv 3) (fun _ _ => rfl)))) pa_nil))))) pss_nil)
  (pss_one (ps_dput hu (pv 2) (pv 3) (pe_tup (pa_cons (pv 6) (pa_cons (pv 7) pa_nil))) rfl))))))
  (pss_one (ps_ret (pv 2))))), ?_⟩
    walk_at "in"
    walk_at "gon"
    intro p hp
    walk_at "gon"
    refine ⟨_, rfl, l, rfl, ⟨ws, sqL (same_new hp _ _ hl)⟩, for_it (walk_list (K := K) (a := l) (xs := ws)) (fun i σ' H' => ∃ v3 v4 v5 v6 v7, σ' = [some (.ref l), some (.ref d), some (.ref p), v3, v4, v5, v6, v7] ∧ Same H H' ∧ SpansAt H' p (spansOf (dayOf ds) (rows.take i)))
      ⟨_, _, _, _, _, rfl, same_new hp, [], upd_same, .nil⟩ ?_ ?_ ?_⟩
    · rintro i σ' H' _ ⟨v3, v4, v5, v6, v7, rfl, sH, _⟩
      exact sqL (sH _ _ hl)
    · rintro i x σ' H2 H3 hi ⟨v3, v4, v5, v6, v7, rfl, sH, hsp⟩ ⟨rfl, hv⟩
      obtain ⟨r, hr1, b, lv, rfl, hb, hlv⟩ := pr_at hrows hv
      have hb3 := sH _ _ hb
      have hl3 := LayAt.mono (sameT sH) hlv
      have hmem := List.mem_of_getElem? hr1
      have hn : (names rows)[i]? = some r.name := by
        unfold names
        rw [List.getElem?_map, hr1]
        rfl
      have out := not_before ok.unlike hn
      have hin : r.name ∈ names rows := List.mem_of_getElem? hn
      have nsp : (spansOf (dayOf ds) (rows.take i)).map Prod.fst = (names rows).take i := by
        rw [spans_names]
        unfold names
        rw [List.map_take]
      have ud : ((spansOf (dayOf ds) (rows.take i)).map Prod.fst).Nodup := by
        rw [nsp]
        exact ok.unlike.sublist (List.take_sublist ..)
      have sub : ∀ x ∈ r.lay.anchors, x ∈ (spansOf (dayOf ds) (rows.take i)).map Prod.fst := fun x hx => by
        rw [nsp]
        exact ok.back i r hr1 x hx
      have next : spansOf (dayOf ds) (rows.take (i + 1)) = step (dayOf ds) (spansOf (dayOf ds) (rows.take i)) r := by
        rw [take_snoc hr1, spans_snoc]
      obtain ⟨n0, n1⟩ := (ok.ok r hmem).need
      have lok := (ok.ok r hmem).lay
      have hd3 := sH _ _ hd
      have small : (spansOf (dayOf ds) (rows.take i)).length < 60 := by
        have e := congrArg List.length nsp
        rw [List.length_map, List.length_take] at e
        omega
      generalize spansOf (dayOf ds) (rows.take i) = sp at hsp nsp ud sub next small
      walk_at "gon"
      refine ⟨lv, p, r.lay, sp, rfl, hl3, lok, hsp, ud, sub, fun H4 s4 => ?_⟩
      have hd4 := s4 _ _ hd3
      have hl4 := LayAt.mono (sameT s4) hl3
      have hsp4 := SpansAt.mono s4 hsp
      have sH4 := sH.trans s4
      walk_at "gon"
      refine x_dget hd4 (day_val (all _ hin)) ?_
      walk_at "gon"
      have outS : r.name ∉ sp.map Prod.fst := by rw [nsp]; exact out
      rcases e : r.lay with _ | xs | y | ⟨y, k⟩
      · rw [e] at hl4
        obtain ⟨a, rfl, ha⟩ := hl4
        walk_at "gon"
        refine x_spanPut rfl rfl rfl rfl hsp4 outS (by omega) fun H5 u hs => ⟨_, _, _, _, _, rfl, but_back hp sH4 u, ?_⟩
        rw [next]
        unfold step stopOf
        rw [e]
        exact hs
      · rw [e] at hl4
        obtain ⟨a, c, rfl, ha, hc⟩ := hl4
        walk_at "gon"
        refine x_spanPut rfl rfl rfl rfl hsp4 outS (by omega) fun H5 u hs => ⟨_, _, _, _, _, rfl, but_back hp sH4 u, ?_⟩
        rw [next]
        unfold step stopOf
        rw [e]
        exact hs
      · rw [e] at hl4
        obtain ⟨a, rfl, ha⟩ := hl4
        walk_at "gon"
        refine x_spanPut rfl rfl rfl rfl hsp4 outS (by omega) fun H5 u hs => ⟨_, _, _, _, _, rfl, but_back hp sH4 u, ?_⟩
        rw [next]
        unfold step stopOf
        rw [e]
        exact hs
      · rw [e] at hl4 lok sub
        obtain ⟨a, rfl, ha⟩ := hl4
        obtain ⟨k0, k1, k2⟩ := lok
        obtain ⟨kvs, hsd, hsk⟩ := id hsp4
        have kn0 : 0 ≤ k * r.need := Int.mul_nonneg (by omega) n0
        have kn1 : k * r.need ≤ 11 * 12 := Int.mul_le_mul k2 n1 n0 (by decide)
        obtain ⟨t, ht1, ht2⟩ := hsk.get ud (sub y (.head _))
        walk_at "gon"
        refine x_dget hsd ht1 ?_
        walk_at "gon"
        refine x_dget hd4 (day_val (all _ hin)) ?_
        walk_at "gon"
        refine x_spanPut rfl rfl rfl rfl hsp4 outS (by omega) fun H5 u hs => ⟨_, _, _, _, _, rfl, but_back hp sH4 u, ?_⟩
        rw [next]
        unfold step stopOf
        rw [e]
        have em : ∀ i j : Int, (if j > i then j else i) = max i j := fun i j => by
          by_cases c : j > i
          · rw [if_pos c, Int.max_eq_right (by omega)]
          · rw [if_neg c, Int.max_eq_left (by omega)]
        rw [em] at hs
        exact hs
    · rintro σ' H' ⟨v3, v4, v5, v6, v7, rfl, sH, hsp⟩
      rw [many, List.take_length] at hsp
      walk_at "gon"
      exact q p H' sH hsp
end
end Tm
set_option maxRecDepth 100000
set_option maxHeartbeats 4000000
namespace Tm
open PySem PySem.Spec PyProof.Rows L2
section
variable {P : Program} {w : World} {K : PySem.W.Frag} {mg : Str → Option Value} {base : Heap}
local macro_rules | `(tactic| walk_at "in") => `(tactic| dsimp only [cxOf, L2.start, List.map, List.length, Nat.reduceAdd, Nat.reduceSub, List.replicate, List.cons_append, List.nil_append])
local macro_rules | `(tactic| walk_at "num") => `(tactic| first
  | exact Or.inl ⟨by omega, by omega⟩ | exact Or.inr ⟨by omega, by omega⟩ | exact ⟨by omega, by omega⟩ | exact ⟨by decide, by decide, by omega⟩ | (show (0 : Int) < _; omega))
local macro_rules | `(tactic| walk_at "go1") => `(tactic| with_reducible first
  | refine x_seq ?_ | refine x_asg ?_ | refine x_ret ?_ | refine x_retN ?_ | refine x_drop ?_ | refine x_next ?_ | refine x_ifS ?_ | refine x_par ?_
  | refine x_var (by with_unfolding_all exact rfl) ?_
  | refine x_C ?_ | refine x_op ?_ | refine x_rI0 ?_ | refine x_un ?_ | refine x_rU ?_ | refine x_cb ?_ | refine x_nil ?_ | refine x_cons ?_ | refine x_test ?_ | refine x_tB ?_ | refine x_bl2 ?_
  | refine x_eq (by with_unfolding_all exact rfl) ?_ | refine x_ne (by with_unfolding_all exact rfl) ?_
  | refine x_and ?_ | refine x_or ?_ | refine x_not ?_ | refine x_andV ?_ | refine x_orV ?_ | refine x_notV ?_ | refine x_if ?_ | refine x_chain ?_ | refine x_tup ?_ | refine x_lst ?_ | refine x_call ?_ | refine x_sl ?_ | refine x_noPart ?_ | refine x_part ?_
  | refine x_int ?_ | refine x_int1 ?_ | refine x_max2 ?_ | refine x_min2 ?_ | refine x_dgetT ?_ | refine x_dputT ?_ | refine x_dinT ?_ | refine x_dnotinT ?_ | refine x_disp ?_ | refine x_pairs ?_ | refine x_pairs0 ?_ | refine x_dnew ?_ | refine x_ckw ?_ | refine x_fldS ?_ | refine x_fld ?_ | refine x_make ?_ | refine x_makeK ?_ | refine x_meth ?_ | refine x_prop ?_ | refine x_gTup (sqT (by assumption)) (by with_unfolding_all exact rfl) ?_ | refine x_gCons ?_ | refine x_gNil ?_ | refine iteT ?_ | refine x_nbt ?_ | refine i_sn ?_ | refine i_ss ?_ | refine i_nsn ?_ | refine i_nss ?_ | refine x_nbf ?_ | refine iteF ?_
  | refine x_isi_str ?_ | refine x_isi_int ?_ | refine x_isi_intB ?_ | refine x_isi_tup (by assumption) ?_ | refine x_isi_dict (by assumption) ?_ | refine x_st2 ?_ | refine x_yes ?_ | refine x_yes2 ?_ | refine x_lenSet ?_)
local macro_rules | `(tactic| walk_at "go") => `(tactic| repeat (first
  | walk_at "go1"
  | ((with_reducible refine x_rI ?c ?_); (case c => walk_at "num"))
  | ((with_reducible refine x_gName ?_); (try dsimp only [L2.wipe, List.set_cons_zero, List.set_cons_succ]))))
local macro_rules | `(tactic| walk_at "gon") => `(tactic| repeat (first
  | walk_at "go1"
  | ((with_reducible refine x_lenT (sqT (by assumption)) ?_); (try simp only [List.length_cons, List.length_nil, List.length_map]))
  | ((with_reducible refine x_lenL (sqL (by assumption)) ?_); (try simp only [List.length_cons, List.length_nil, List.length_map]))
  | (with_reducible refine x_ixT (sqT (by assumption)) (by with_unfolding_all exact rfl) ?_)
  | (with_reducible refine x_ixL (sqL (by assumption)) (by with_unfolding_all exact rfl) ?_)
  | ((with_reducible refine x_rI ?c ?_); (case c => walk_at "num"))
  | ((with_reducible refine x_gName ?_); (try dsimp only [L2.wipe, List.set_cons_zero, List.set_cons_succ]))
  | with_reducible refine i_t rfl ?_ | with_reducible refine i_f (fun e => absurd (V.int.inj e) (by omega)) ?_ | with_reducible refine i_t (congrArg V.int (by omega)) ?_ | with_reducible refine i_f (by decide +kernel) ?_ | with_reducible refine i_nt rfl ?_ | with_reducible refine i_nt (congrArg V.int (by omega)) ?_ | with_reducible refine i_nf (fun e => absurd (V.int.inj e) (by omega)) ?_
  | with_reducible refine i_t (by omega) ?_ | with_reducible refine i_f (by omega) ?_ | with_reducible refine i_nt (by omega) ?_ | with_reducible refine i_nf (by omega) ?_ | dsimp only))

structure T12 (P : Program) (w : World) (K : PySem.W.Frag) (mg : Str → Option Value) (base : Heap) (C e : Addr) : Prop extends T9 P w K mg base C e where
  c_start : C8.Cal P w K mg base 1 "_start" spStart []
  c_last_stop : C8.Cal P w K mg base 1 "_last_stop" spLast []
  c_spans : C8.Cal P w K mg base 2 "_spans" spSpans []
def spIsLengths (K : PySem.W.Frag) (C : Addr) : Sp := fun vs H Q _ => ∃ p d rows gone ds, vs = [.ref p, .ref d] ∧ Good K C H p rows gone ∧ LenOk H d ds rows ∧ ans (.bl true) H Q
def spFullLines (K : PySem.W.Frag) (C : Addr) : Sp := fun vs H Q _ => ∃ p rows gone, vs = [.ref p] ∧ Good K C H p rows gone ∧ ∀ l ws H', Same H H' → H' l = some (.lst ws) → RowsAt H' ws (rows.map full) → Q (.ref l) H'
def spServed (K : PySem.W.Frag) (C : Addr) : Sp := fun vs H Q _ => ∃ p d rows gone ds, vs = [.ref p, .ref d] ∧ Good K C H p rows gone ∧ LenOk H d ds rows ∧ ∀ a H', Same H H' → H' a = some (.dK (dayEnt (served gone ds (names rows)))) → Q (.ref a) H'
abbrev s_is_lengths : Stmt := top 24
theorem sc_is_lengths : FnScope ["sheet", "value", "name", "days"] ["sheet", "value"] (C8.fnScope s_is_lengths) := C8.fnScope_by (by decide +kernel)
theorem c_is_lengths {C e : Addr} (D : DefX K mg "is_lengths" s_is_lengths) (T : T12 P w K mg base C e) : C8.Cal P w K mg base 3 "is_lengths" (spIsLengths K C) [] := by
  refine cal_of D sc_is_lengths (fun _ _ _ _ _ _ us hl => match us, hl with | [_, _], _ => rfl) (fun vs H Q E h => ?_) (fun f cdv A outer s H vs Q E hr h => ?_)
  · obtain ⟨p, d, rows, gone, ds, rfl, _⟩ := h
    rfl
  · obtain ⟨p, d, rows, gone, ds, rfl, G, L, q⟩ := h
    have nd := sc_is_lengths.nd
    have hu := hu_of hr
    have hd := L.here
    refine ⟨_, (pss_cons (ps_if (pt_not (pt_val (pe_callB call_isi (by rfl) T.b_isinstance (by decide +kernel) (pa_cons (pv 1) (pa_cons (pe_bltn (v := .ty "dict") (by rfl) T.b_dict (by decide +kernel) rfl) pa_nil))))) (pss_one (ps_ret pe_bl)) pss_nil)
  (pss_cons (ps_if (pt_not (pt_val (pe_callB (cr_all rfl) (by rfl) T.b_all (by decide +kernel) (pa_cons (pe_lock (pe_lc (own := [("name", 2), ("days", 3)]) (g := (gTup K 2 (gCons (gName 2) (gCons (gName 3) gNil)))) rfl nd (pi_items (pv 1)) (blkOk_by (N := _) (by rfl)) (fun _ _ _ _ _ => (pg_tup (n := 2) rfl (pgs_cons (pg_name (i := 2) nd rfl (Or.inl rfl)) (pgs_cons (pg_name (i := 3) nd rfl (Or.inl rfl)) pgs_nil)))) (fun _ _ _ _ _ => pts_nil) (fun _ _ _ _ _ => (pe_and (C8.pe_c T.c_is_name hr (by decide) (by rfl) (pa_cons (pv 2) pa_nil)) (pe_and (C8.pe_c T.c_is_int hr (by decide) (by rfl) (pa_cons (pv 3) pa_nil)) (pe_one (pe_cmpR op_ge (pv 3) pe_int (nomark _)))))))) pa_nil)))) (pss_one (ps_ret pe_bl)) pss_nil)
  (pss_one (ps_ret (pe_callB (cr_all rfl) (by rfl) T.b_all (by decide +kernel) (pa_cons (pe_lc (own := [("name", 2)]) (g := (gName 2)) rfl nd (pi_list (pe_pr T.p_Sheet_names hr (by decide) (pv 0) rfl)) (blkOk_by (N := _) (by rfl)) (fun _ _ _ _ _ => (pg_name (i := 2) nd rfl (Or.inl rfl))) (fun _ _ _ _ _ => pts_nil) (fun _ _ _ _ _ => (pe_cmp (pc_din hu (pv 2) (pv 1)) (by rfl)))) pa_nil)))))), ?_⟩
    walk_at "in"
    walk_at "gon"
    refine ⟨d, _, hd, trivial, fun od => ?_⟩
    refine ⟨_, rfl, d, od, _, rfl, upd_same, fun Da hD => lc_rel (walk_items (d := d) (o := od) (kvs := dayEnt ds)) ds (by unfold dayEnt; rw [List.length_map]) (len_le (by unfold dayEnt; rw [List.length_map]; have := L.few; omega)) (fun _ v _ => v = .bl true) (fun _ _ _ _ _ e => e) hD (fun _ e => e _ _ upd_same) ?_ ?_⟩
    · rintro i ⟨x, n⟩ v H2 H3 hx s2 ⟨t, y, u, rfl, fresh, rfl, hy, hv⟩
      have e1 : (dayEnt ds)[i]? = some (Sum.inr x, V.int n) := by
        unfold dayEnt
        rw [List.getElem?_map, hx]
        rfl
      dsimp only at hy hv
      rw [e1] at hy hv
      obtain rfl : kV (Sum.inr x) = y := Option.some.inj hy
      obtain rfl : V.int n = u := Option.some.inj hv
      obtain ⟨o1, o2⟩ := L.ok _ (List.mem_of_getElem? hx)
      have o2' : 0 ≤ n := o2
      have s3 := same_new (o := .tup [kV (Sum.inr x), V.int n]) fresh
      have ht : upd H2 t (.tup [kV (Sum.inr x), V.int n]) t = some (.tup [V.str x, V.int n]) := upd_same
      generalize upd H2 t (.tup [kV (Sum.inr x), V.int n]) = H3 at s3 ht ⊢
      refine ⟨s3, fun k z1 fin => ?_⟩
      walk_at "gon"
      refine ⟨rfl, ?_⟩
      walk_at "gon"
      refine ⟨x, rfl, o1, fun H4 s4 => ?_⟩
      walk_at "gon"
      refine ⟨n, rfl, ?_⟩
      walk_at "gon"
      rw [decide_eq_true (by omega)]
      exact fin _ _ s4 rfl
    · intro H2 acc s2 hacc pr
      have h2d := s2 _ _ (upd_same (a := d))
      refine ⟨h2d, ?_⟩
      have sU := same_unlock hd s2
      have ne : Da ≠ d := fun z => by
        rw [z, h2d] at hacc
        cases hacc
      walk_at "gon"
      refine x_allT (by rw [upd_ne ne]; exact hacc) (fun v hv => ?_) ?_
      · obtain ⟨j, hj⟩ := List.getElem?_of_mem hv
        obtain ⟨_, _, e⟩ := pr_at pr hj
        exact e
      generalize upd H2 d (.dK (dayEnt ds)) = H3 at sU ⊢
      have G3 := G.mono sU
      have hd3 := sU _ _ hd
      walk_at "gon"
      obtain ⟨dx, l0, q0, vs0, hp0, _⟩ := id G3.here
      refine ⟨_, rfl, p, dx, _, rfl, hp0, p, rows, gone, rfl, G3.here, G3.few, fun l1 H4 s4 hl1 => ⟨l1, rfl, ⟨_, sqL hl1⟩, fun Db hDb => lc_rel (walk_list (K := K) (a := l1) (xs := (names rows).map V.str)) (names rows) (by simp) (len_le (by unfold names; rw [List.length_map, List.length_map]; have := G3.few; omega)) (fun _ v _ => v = .bl true) (fun _ _ _ _ _ e => e) hDb (fun _ e => sqL (e _ _ hl1)) ?_ ?_⟩⟩
      · rintro i x v H5 H6 hx s5 ⟨rfl, hv⟩
        rw [List.getElem?_map, hx] at hv
        obtain rfl := Option.some.inj hv
        refine ⟨fun _ _ e => e, fun k z1 fin => ?_⟩
        walk_at "gon"
        refine ⟨rfl, ?_⟩
        walk_at "gon"
        refine x_dinY (s5 _ _ (s4 _ _ hd3)) (day_val (L.all x (List.mem_of_getElem? hx))) ?_
        exact fin _ _ (fun _ _ e => e) rfl
      · intro H5 acc2 s5 hacc2 pr2
        walk_at "gon"
        refine x_allT hacc2 (fun v hv => ?_) (q _ (sU.trans (s4.trans s5)))
        obtain ⟨j, hj⟩ := List.getElem?_of_mem hv
        obtain ⟨_, _, e⟩ := pr_at pr2 hj
        exact e
abbrev s_full_lines : Stmt := top 29
theorem sc_full_lines : FnScope ["sheet", "name", "lay", "_"] ["sheet"] (C8.fnScope s_full_lines) := C8.fnScope_by (by decide +kernel)
theorem c_full_lines {C e : Addr} (D : DefX K mg "_full_lines" s_full_lines) (T : T12 P w K mg base C e) : C8.Cal P w K mg base 3 "_full_lines" (spFullLines K C) [] := by
  refine cal_of D sc_full_lines (fun _ _ _ _ _ _ us hl => match us, hl with | [_], _ => rfl) (fun vs H Q E h => ?_) (fun f cdv A outer s H vs Q E hr h => ?_)
  · obtain ⟨p, rows, gone, rfl, _⟩ := h
    rfl
  · obtain ⟨p, rows, gone, rfl, G, q⟩ := h
    have nd := sc_full_lines.nd
    obtain ⟨dx, l0, q0, vs0, hp0, _⟩ := id G.here
    refine ⟨_, (pss_one (ps_ret (pe_lc (own := [("name", 1), ("lay", 2), ("_", 3)]) (g := (gTup K 3 (gCons (gName 1) (gCons (gName 2) (gCons (gName 3) gNil))))) rfl nd (pi_list (pe_pr T.p_Sheet_lines hr (by decide) (pv 0) rfl)) (blkOk_by (N := _) (by rfl)) (fun _ _ _ _ _ => (pg_tup (n := 3) rfl (pgs_cons (pg_name (i := 1) nd rfl (Or.inl rfl)) (pgs_cons (pg_name (i := 2) nd rfl (Or.inl rfl)) (pgs_cons (pg_name (i := 3) nd rfl (Or.inl rfl)) pgs_nil))))) (fun _ _ _ _ _ => pts_nil) (fun _ _ _ _ _ => (pe_tup (pa_cons (pv 1) (pa_cons (pv 2) (pa_cons pe_int pa_nil)))))))), ?_⟩
    walk_at "in"
    walk_at "gon"
    refine ⟨_, rfl, p, dx, _, rfl, hp0, p, rows, gone, rfl, G.here, fun l1 ws H1 s1 hl1 hrows => ⟨l1, rfl, ⟨_, sqL hl1⟩, fun Da hD => lc_rel (walk_list (K := K) (a := l1) (xs := ws)) (rows.map full) (by rw [List.length_map]; exact (pr_len hrows).symm) (len_le (by have := pr_len hrows; have := G.few; omega)) RowAt (fun _ _ _ _ m h => RowAt.mono m h) hD (fun _ e => sqL (e _ _ hl1)) ?_ ?_⟩⟩
    · rintro i r v H2 H3 hr s2 ⟨rfl, hv⟩
      obtain ⟨r', hr', b, lv, rfl, hb, hl⟩ := pr_at hrows hv
      rw [List.getElem?_map, hr'] at hr
      obtain rfl := Option.some.inj hr
      have hb3 := s2 _ _ hb
      have hl3 := LayAt.mono (sameT s2) hl
      refine ⟨fun _ _ e => e, fun k z1 fin => ?_⟩
      walk_at "gon"
      refine ⟨rfl, ?_⟩
      walk_at "gon"
      refine ⟨len_le (by simp), fun t ht => fin _ _ (same_new ht) ⟨t, lv, rfl, upd_same, LayAt.mono (SameT.new ht) hl3⟩⟩
    · intro H2 acc s2 hacc pr
      exact q _ acc _ (s1.trans s2) hacc pr
end
end Tm
set_option maxRecDepth 100000
set_option maxHeartbeats 4000000
namespace Tm
open PySem PySem.Spec PyProof.Rows L2
section
variable {P : Program} {w : World} {K : PySem.W.Frag} {mg : Str → Option Value} {base : Heap}
local macro_rules | `(tactic| walk_at "in") => `(tactic| dsimp only [cxOf, L2.start, List.map, List.length, Nat.reduceAdd, Nat.reduceSub, List.replicate, List.cons_append, List.nil_append])
local macro_rules | `(tactic| walk_at "num") => `(tactic| first
  | exact Or.inl ⟨by omega, by omega⟩ | exact Or.inr ⟨by omega, by omega⟩ | exact ⟨by omega, by omega⟩ | exact ⟨by decide, by decide, by omega⟩ | (show (0 : Int) < _; omega))
local macro_rules | `(tactic| walk_at "go1") => `(tactic| with_reducible first
  | refine x_seq ?_ | refine x_asg ?_ | refine x_ret ?_ | refine x_retN ?_ | refine x_drop ?_ | refine x_next ?_ | refine x_ifS ?_ | refine x_par ?_
  | refine x_var (by with_unfolding_all exact rfl) ?_
  | refine x_C ?_ | refine x_op ?_ | refine x_rI0 ?_ | refine x_un ?_ | refine x_rU ?_ | refine x_cb ?_ | refine x_nil ?_ | refine x_cons ?_ | refine x_test ?_ | refine x_tB ?_ | refine x_bl2 ?_
  | refine x_eq (by with_unfolding_all exact rfl) ?_ | refine x_ne (by with_unfolding_all exact rfl) ?_
  | refine x_and ?_ | refine x_or ?_ | refine x_not ?_ | refine x_andV ?_ | refine x_orV ?_ | refine x_notV ?_ | refine x_if ?_ | refine x_chain ?_ | refine x_tup ?_ | refine x_lst ?_ | refine x_call ?_ | refine x_sl ?_ | refine x_noPart ?_ | refine x_part ?_
  | refine x_int ?_ | refine x_int1 ?_ | refine x_max2 ?_ | refine x_min2 ?_ | refine x_dgetT ?_ | refine x_dputT ?_ | refine x_dinT ?_ | refine x_dnotinT ?_ | refine x_disp ?_ | refine x_pairs ?_ | refine x_pairs0 ?_ | refine x_dnew ?_ | refine x_ckw ?_ | refine x_fldS ?_ | refine x_fld ?_ | refine x_make ?_ | refine x_makeK ?_ | refine x_meth ?_ | refine x_prop ?_ | refine x_gTup (sqT (by assumption)) (by with_unfolding_all exact rfl) ?_ | refine x_gCons ?_ | refine x_gNil ?_ | refine iteT ?_ | refine x_nbt ?_ | refine i_sn ?_ | refine i_ss ?_ | refine i_nsn ?_ | refine i_nss ?_ | refine x_nbf ?_ | refine iteF ?_
  | refine x_isi_str ?_ | refine x_isi_int ?_ | refine x_isi_intB ?_ | refine x_isi_tup (by assumption) ?_ | refine x_isi_dict (by assumption) ?_ | refine x_st2 ?_ | refine x_yes ?_ | refine x_yes2 ?_ | refine x_lenSet ?_)
local macro_rules | `(tactic| walk_at "go") => `(tactic| repeat (first
  | walk_at "go1"
  | ((with_reducible refine x_rI ?c ?_); (case c => walk_at "num"))
  | ((with_reducible refine x_gName ?_); (try dsimp only [L2.wipe, List.set_cons_zero, List.set_cons_succ]))))
local macro_rules | `(tactic| walk_at "gon") => `(tactic| repeat (first
  | walk_at "go1"
  | ((with_reducible refine x_lenT (sqT (by assumption)) ?_); (try simp only [List.length_cons, List.length_nil, List.length_map]))
  | ((with_reducible refine x_lenL (sqL (by assumption)) ?_); (try simp only [List.length_cons, List.length_nil, List.length_map]))
  | (with_reducible refine x_ixT (sqT (by assumption)) (by with_unfolding_all exact rfl) ?_)
  | (with_reducible refine x_ixL (sqL (by assumption)) (by with_unfolding_all exact rfl) ?_)
  | ((with_reducible refine x_rI ?c ?_); (case c => walk_at "num"))
  | ((with_reducible refine x_gName ?_); (try dsimp only [L2.wipe, List.set_cons_zero, List.set_cons_succ]))
  | with_reducible refine i_t rfl ?_ | with_reducible refine i_f (fun e => absurd (V.int.inj e) (by omega)) ?_ | with_reducible refine i_t (congrArg V.int (by omega)) ?_ | with_reducible refine i_f (by decide +kernel) ?_ | with_reducible refine i_nt rfl ?_ | with_reducible refine i_nt (congrArg V.int (by omega)) ?_ | with_reducible refine i_nf (fun e => absurd (V.int.inj e) (by omega)) ?_
  | with_reducible refine i_t (by omega) ?_ | with_reducible refine i_f (by omega) ?_ | with_reducible refine i_nt (by omega) ?_ | with_reducible refine i_nf (by omega) ?_ | dsimp only))

structure T13 (P : Program) (w : World) (K : PySem.W.Frag) (mg : Str → Option Value) (base : Heap) (C e : Addr) : Prop extends T12 P w K mg base C e where
  c_is_lengths : C8.Cal P w K mg base 3 "is_lengths" (spIsLengths K C) []
  c_full_lines : C8.Cal P w K mg base 3 "_full_lines" (spFullLines K C) []
abbrev s_served_days : Stmt := top 30
theorem sc_served_days : FnScope ["sheet", "lengths", "quashed", "name"] ["sheet", "lengths"] (C8.fnScope s_served_days) := C8.fnScope_by (by decide +kernel)
theorem c_served_days {C e : Addr} (D : DefX K mg "_served_days" s_served_days) (T : T13 P w K mg base C e) : C8.Cal P w K mg base 4 "_served_days" (spServed K C) [] := by
  refine cal_of D sc_served_days (fun _ _ _ _ _ _ us hl => match us, hl with | [_, _], _ => rfl) (fun vs H Q E h => ?_) (fun f cdv A outer s H vs Q E hr h => ?_)
  · obtain ⟨p, d, rows, gone, ds, rfl, _⟩ := h
    rfl
  · obtain ⟨p, d, rows, gone, ds, rfl, G, L, q⟩ := h
    have nd := sc_served_days.nd
    have hu := hu_of hr
    refine ⟨_, (pss_cons (ps_if (pt_not (pt_val (C8.pe_c T.c_is_lengths hr (by decide) (by rfl) (pa_cons (pv 0) (pa_cons (pv 1) pa_nil))))) pss_never pss_nil)
  (pss_cons (ps_set (i := 2) nd rfl (Or.inr rfl) (pe_pr T.p_Sheet_quashed hr (by decide) (pv 0) rfl))
  (pss_one (ps_ret (pe_dc (own := [("name", 3)]) (g := (gName 3)) rfl nd (pi_list (pe_pr T.p_Sheet_names hr (by decide) (pv 0) rfl)) (blkOk_by (N := _) (by rfl)) (fun _ _ _ _ _ => (pg_name (i := 3) nd rfl (Or.inl rfl))) (fun _ _ _ _ _ => pts_nil) (fun _ _ _ _ _ => (pv 3)) (fun _ _ _ _ _ => (pe_ifExp (pt_cmpR (show OpR _ (compareOp .In) (rIn K false) from op_in_seq) (pv 3) (pv 2) (by rfl)) pe_int (pe_dget hu (pv 1) (pv 3) (fun _ _ => rfl))))))))), ?_⟩
    walk_at "in"
    walk_at "gon"
    refine ⟨p, d, rows, gone, ds, rfl, G, L, fun H1 s1 => ?_⟩
    have G1 := G.mono s1
    have L1 := L.mono s1
    walk_at "gon"
    obtain ⟨dx, l0, q0, vs0, hp0, _⟩ := id G1.here
    refine ⟨p, dx, _, rfl, hp0, p, rows, gone, rfl, G1.here, fun q1 hq1 => ?_⟩
    walk_at "gon"
    refine ⟨_, rfl, p, dx, _, rfl, hp0, p, rows, gone, rfl, G1.here, G1.few, fun l1 H2 s2 hl1 => ⟨l1, rfl, ⟨_, sqL hl1⟩, fun Da hD => dc_rel (walk_list (K := K) (a := l1) (xs := (names rows).map V.str)) (names rows) Sum.inr (by simp) (len_le (by unfold names; rw [List.length_map, List.length_map]; have := G1.few; omega)) (nodup_inr G1.ok.unlike) (fun _ v x => v = .int (serve gone ds x)) (fun _ _ _ _ _ e => e) hD (fun _ e => sqL (e _ _ hl1)) ?_ ?_⟩⟩
    · rintro i x v H5 H6 hx s5 ⟨rfl, hv⟩
      rw [List.getElem?_map, hx] at hv
      obtain rfl := Option.some.inj hv
      refine ⟨fun _ _ e => e, fun k z1 fin => ?_⟩
      walk_at "gon"
      refine ⟨rfl, ?_⟩
      walk_at "gon"
      refine x_inT (sqT_same (s2.trans s5) hq1) ?_
      walk_at "gon"
      refine i_2 (fun c => ?_) (fun c => ?_)
      · walk_at "gon"
        exact fin _ _ (fun _ _ e => e) (by unfold serve; rw [if_pos c])
      · walk_at "gon"
        refine x_dget (s5 _ _ (s2 _ _ L1.here)) (day_val (L.all x (List.mem_of_getElem? hx))) ?_
        exact fin _ _ (fun _ _ e => e) (by unfold serve; rw [if_neg c])
    · intro H5 acc s5 hacc pr
      rw [acc_dict pr] at hacc
      refine q _ _ (s1.trans (s2.trans s5)) (hacc.trans ?_)
      unfold dayEnt served
      rw [List.map_map]
      rfl
end
end Tm
set_option maxRecDepth 100000
set_option maxHeartbeats 4000000
namespace Tm
open PySem PySem.Spec PyProof.Rows L2
section
variable {P : Program} {w : World} {K : PySem.W.Frag} {mg : Str → Option Value} {base : Heap}
local macro_rules | `(tactic| walk_at "in") => `(tactic| dsimp only [cxOf, L2.start, List.map, List.length, Nat.reduceAdd, Nat.reduceSub, List.replicate, List.cons_append, List.nil_append])
local macro_rules | `(tactic| walk_at "num") => `(tactic| first
  | exact Or.inl ⟨by omega, by omega⟩ | exact Or.inr ⟨by omega, by omega⟩ | exact ⟨by omega, by omega⟩ | exact ⟨by decide, by decide, by omega⟩ | (show (0 : Int) < _; omega))
local macro_rules | `(tactic| walk_at "go1") => `(tactic| with_reducible first
  | refine x_seq ?_ | refine x_asg ?_ | refine x_ret ?_ | refine x_retN ?_ | refine x_drop ?_ | refine x_next ?_ | refine x_ifS ?_ | refine x_par ?_
  | refine x_var (by with_unfolding_all exact rfl) ?_
  | refine x_C ?_ | refine x_op ?_ | refine x_rI0 ?_ | refine x_un ?_ | refine x_rU ?_ | refine x_cb ?_ | refine x_nil ?_ | refine x_cons ?_ | refine x_test ?_ | refine x_tB ?_ | refine x_bl2 ?_
  | refine x_eq (by with_unfolding_all exact rfl) ?_ | refine x_ne (by with_unfolding_all exact rfl) ?_
  | refine x_and ?_ | refine x_or ?_ | refine x_not ?_ | refine x_andV ?_ | refine x_orV ?_ | refine x_notV ?_ | refine x_if ?_ | refine x_chain ?_ | refine x_tup ?_ | refine x_lst ?_ | refine x_call ?_ | refine x_sl ?_ | refine x_noPart ?_ | refine x_part ?_
  | refine x_int ?_ | refine x_int1 ?_ | refine x_max2 ?_ | refine x_min2 ?_ | refine x_dgetT ?_ | refine x_dputT ?_ | refine x_dinT ?_ | refine x_dnotinT ?_ | refine x_disp ?_ | refine x_pairs ?_ | refine x_pairs0 ?_ | refine x_dnew ?_ | refine x_ckw ?_ | refine x_fldS ?_ | refine x_fld ?_ | refine x_make ?_ | refine x_makeK ?_ | refine x_meth ?_ | refine x_prop ?_ | refine x_gTup (sqT (by assumption)) (by with_unfolding_all exact rfl) ?_ | refine x_gCons ?_ | refine x_gNil ?_ | refine iteT ?_ | refine x_nbt ?_ | refine i_sn ?_ | refine i_ss ?_ | refine i_nsn ?_ | refine i_nss ?_ | refine x_nbf ?_ | refine iteF ?_
  | refine x_isi_str ?_ | refine x_isi_int ?_ | refine x_isi_intB ?_ | refine x_isi_tup (by assumption) ?_ | refine x_isi_dict (by assumption) ?_ | refine x_st2 ?_ | refine x_yes ?_ | refine x_yes2 ?_ | refine x_lenSet ?_)
local macro_rules | `(tactic| walk_at "go") => `(tactic| repeat (first
  | walk_at "go1"
  | ((with_reducible refine x_rI ?c ?_); (case c => walk_at "num"))
  | ((with_reducible refine x_gName ?_); (try dsimp only [L2.wipe, List.set_cons_zero, List.set_cons_succ]))))
local macro_rules | `(tactic| walk_at "gon") => `(tactic| repeat (first
  | walk_at "go1"
  | ((with_reducible refine x_lenT (sqT (by assumption)) ?_); (try simp only [List.length_cons, List.length_nil, List.length_map]))
  | ((with_reducible refine x_lenL (sqL (by assumption)) ?_); (try simp only [List.length_cons, List.length_nil, List.length_map]))
  | (with_reducible refine x_ixT (sqT (by assumption)) (by with_unfolding_all exact rfl) ?_)
  | (with_reducible refine x_ixL (sqL (by assumption)) (by with_unfolding_all exact rfl) ?_)
  | ((with_reducible refine x_rI ?c ?_); (case c => walk_at "num"))
  | ((with_reducible refine x_gName ?_); (try dsimp only [L2.wipe, List.set_cons_zero, List.set_cons_succ]))
  | with_reducible refine i_t rfl ?_ | with_reducible refine i_f (fun e => absurd (V.int.inj e) (by omega)) ?_ | with_reducible refine i_t (congrArg V.int (by omega)) ?_ | with_reducible refine i_f (by decide +kernel) ?_ | with_reducible refine i_nt rfl ?_ | with_reducible refine i_nt (congrArg V.int (by omega)) ?_ | with_reducible refine i_nf (fun e => absurd (V.int.inj e) (by omega)) ?_
  | with_reducible refine i_t (by omega) ?_ | with_reducible refine i_f (by omega) ?_ | with_reducible refine i_nt (by omega) ?_ | with_reducible refine i_nf (by omega) ?_ | dsimp only))

structure T14 (P : Program) (w : World) (K : PySem.W.Frag) (mg : Str → Option Value) (base : Heap) (C e : Addr) : Prop extends T13 P w K mg base C e where
  c_served_days : C8.Cal P w K mg base 4 "_served_days" (spServed K C) []
/-- the spans with every need at twelve; as laid -/
def fullOf (rows : List Row) (gone : List Str) (ds : List (Str × Int)) : List Span := spansOf (serve gone ds) (rows.map full)
def leastOf (rows : List Row) (gone : List Str) (ds : List (Str × Int)) : List Span := spansOf (serve gone ds) rows
def spEnd (K : PySem.W.Frag) (C : Addr) (f : List Row → List Str → List (Str × Int) → List Span) : Sp := fun vs H Q _ => ∃ p d rows gone ds, vs = [.ref p, .ref d] ∧ Good K C H p rows gone ∧ LenOk H d ds rows ∧ ans (.int (lastOf (f rows gone ds))) H Q
def spEdge (K : PySem.W.Frag) (C : Addr) (g : Span → Int) : Sp := fun vs H Q _ => ∃ p d rows gone ds, vs = [.ref p, .ref d] ∧ Good K C H p rows gone ∧ LenOk H d ds rows ∧
  ∀ a H', Same H H' → H' a = some (.dK (dayEnt ((fullOf rows gone ds).map fun s => (s.1, g s)))) → Q (.ref a) H'
theorem sub_full {rows : List Row} {gone : List Str} {ds : List (Str × Int)} : ∀ x ∈ names (rows.map full), x ∈ (served gone ds (names rows)).map Prod.fst := fun x hx => by
  rw [served_fst, ← names_full]
  exact hx
theorem sub_least {rows : List Row} {gone : List Str} {ds : List (Str × Int)} : ∀ x ∈ names rows, x ∈ (served gone ds (names rows)).map Prod.fst := fun x hx => by
  rw [served_fst]
  exact hx
abbrev s_end : Stmt := top 27
theorem sc_end : FnScope ["sheet", "lengths"] ["sheet", "lengths"] (C8.fnScope s_end) := C8.fnScope_by (by decide +kernel)
theorem c_end {C e : Addr} (D : DefX K mg "end" s_end) (T : T14 P w K mg base C e) : C8.Cal P w K mg base 5 "end" (spEnd K C fullOf) [] := by
  refine cal_of D sc_end (fun _ _ _ _ _ _ us hl => match us, hl with | [_, _], _ => rfl) (fun vs H Q E h => ?_) (fun f cdv A outer s H vs Q E hr h => ?_)
  · obtain ⟨p, d, rows, gone, ds, rfl, _⟩ := h
    rfl
  · obtain ⟨p, d, rows, gone, ds, rfl, G, L, q⟩ := h
    have nd := sc_end.nd
    refine ⟨_, (pss_one (ps_ret (C8.pe_c T.c_last_stop hr (by decide) (by rfl) (pa_cons (C8.pe_c T.c_spans hr (by decide) (by rfl) (pa_cons (C8.pe_c T.c_full_lines hr (by decide) (by rfl) (pa_cons (pv 0) pa_nil)) (pa_cons (C8.pe_c T.c_served_days hr (by decide) (by rfl) (pa_cons (pv 0) (pa_cons (pv 1) pa_nil))) pa_nil))) pa_nil)))), ?_⟩
    walk_at "in"
    walk_at "gon"
    refine ⟨p, rows, gone, rfl, G, fun l ws H1 s1 hl hrows => ?_⟩
    walk_at "gon"
    refine ⟨p, d, rows, gone, ds, rfl, G.mono s1, L.mono s1, fun a H2 s2 ha => ?_⟩
    walk_at "gon"
    refine ⟨l, a, ws, rows.map full, _, rfl, s2 _ _ hl, RowsAt.mono (sameT s2) hrows, G.ok.full, by rw [List.length_map]; exact G.few, ha, sub_full, fun s H3 s3 hs => ?_⟩
    walk_at "gon"
    rw [full_spans] at hs
    exact ⟨s, _, rfl, hs, by rw [spans_len, List.length_map]; have := G.few; omega, fun H4 s4 => q H4 (s1.trans (s2.trans (s3.trans s4)))⟩
abbrev s_least_end : Stmt := top 28
theorem sc_least_end : FnScope ["sheet", "lengths"] ["sheet", "lengths"] (C8.fnScope s_least_end) := C8.fnScope_by (by decide +kernel)
theorem c_least_end {C e : Addr} (D : DefX K mg "least_end" s_least_end) (T : T14 P w K mg base C e) : C8.Cal P w K mg base 5 "least_end" (spEnd K C leastOf) [] := by
  refine cal_of D sc_least_end (fun _ _ _ _ _ _ us hl => match us, hl with | [_, _], _ => rfl) (fun vs H Q E h => ?_) (fun f cdv A outer s H vs Q E hr h => ?_)
  · obtain ⟨p, d, rows, gone, ds, rfl, _⟩ := h
    rfl
  · obtain ⟨p, d, rows, gone, ds, rfl, G, L, q⟩ := h
    have nd := sc_least_end.nd
    obtain ⟨dx, l0, q0, vs0, hp0, _⟩ := id G.here
    refine ⟨_, (pss_one (ps_ret (C8.pe_c T.c_last_stop hr (by decide) (by rfl) (pa_cons (C8.pe_c T.c_spans hr (by decide) (by rfl) (pa_cons (pe_pr T.p_Sheet_lines hr (by decide) (pv 0) rfl) (pa_cons (C8.pe_c T.c_served_days hr (by decide) (by rfl) (pa_cons (pv 0) (pa_cons (pv 1) pa_nil))) pa_nil))) pa_nil)))), ?_⟩
    walk_at "in"
    walk_at "gon"
    refine ⟨p, dx, _, rfl, hp0, p, rows, gone, rfl, G.here, fun l ws H1 s1 hl hrows => ?_⟩
    walk_at "gon"
    refine ⟨p, d, rows, gone, ds, rfl, G.mono s1, L.mono s1, fun a H2 s2 ha => ?_⟩
    walk_at "gon"
    refine ⟨l, a, ws, rows, _, rfl, s2 _ _ hl, RowsAt.mono (sameT s2) hrows, G.ok, G.few, ha, sub_least, fun s H3 s3 hs => ?_⟩
    walk_at "gon"
    rw [least_spans] at hs
    exact ⟨s, _, rfl, hs, by rw [spans_len]; have := G.few; omega, fun H4 s4 => q H4 (s1.trans (s2.trans (s3.trans s4)))⟩
abbrev s_begins : Stmt := top 25
theorem sc_begins : FnScope ["sheet", "lengths", "spans", "name", "start", "_"] ["sheet", "lengths"] (C8.fnScope s_begins) := C8.fnScope_by (by decide +kernel)
theorem c_begins {C e : Addr} (D : DefX K mg "begins" s_begins) (T : T14 P w K mg base C e) : C8.Cal P w K mg base 5 "begins" (spEdge K C fun s => s.2.1) [] := by
  refine cal_of D sc_begins (fun _ _ _ _ _ _ us hl => match us, hl with | [_, _], _ => rfl) (fun vs H Q E h => ?_) (fun f cdv A outer s H vs Q E hr h => ?_)
  · obtain ⟨p, d, rows, gone, ds, rfl, _⟩ := h
    rfl
  · obtain ⟨p, d, rows, gone, ds, rfl, G, L, q⟩ := h
    have nd := sc_begins.nd
    have hu := hu_of hr
    refine ⟨_, (pss_cons (ps_set (i := 2) nd rfl (Or.inl rfl) (C8.pe_c T.c_spans hr (by decide) (by rfl) (pa_cons (C8.pe_c T.c_full_lines hr (by decide) (by rfl) (pa_cons (pv 0) pa_nil)) (pa_cons (C8.pe_c T.c_served_days hr (by decide) (by rfl) (pa_cons (pv 0) (pa_cons (pv 1) pa_nil))) pa_nil))))
  (pss_one (ps_ret (pe_lock (pe_dc (own := [("name", 3), ("start", 4), ("_", 5)]) (g := (gTup K 2 (gCons (gName 3) (gCons (gTup K 2 (gCons (gName 4) (gCons (gName 5) gNil))) gNil)))) rfl nd (pi_items (pv 2)) (blkOk_by (N := _) (by rfl)) (fun _ _ _ _ _ => (pg_tup (n := 2) rfl (pgs_cons (pg_name (i := 3) nd rfl (Or.inl rfl)) (pgs_cons (pg_tup (n := 2) rfl (pgs_cons (pg_name (i := 4) nd rfl (Or.inl rfl)) (pgs_cons (pg_name (i := 5) nd rfl (Or.inl rfl)) pgs_nil))) pgs_nil)))) (fun _ _ _ _ _ => pts_nil) (fun _ _ _ _ _ => (pv 3)) (fun _ _ _ _ _ => (pv 4))))))), ?_⟩
    walk_at "in"
    walk_at "gon"
    refine ⟨p, rows, gone, rfl, G, fun l ws H1 s1 hl hrows => ?_⟩
    walk_at "gon"
    refine ⟨p, d, rows, gone, ds, rfl, G.mono s1, L.mono s1, fun a H2 s2 ha => ?_⟩
    walk_at "gon"
    refine ⟨l, a, ws, rows.map full, _, rfl, s2 _ _ hl, RowsAt.mono (sameT s2) hrows, G.ok.full, by rw [List.length_map]; exact G.few, ha, sub_full, fun s H3 s3 hs => ?_⟩
    have sA := s1.trans (s2.trans s3)
    rw [full_spans] at hs
    have ud : (names (rows.map full)).Nodup := G.ok.full.unlike
    rw [← spans_names (serve gone ds) (rows.map full)] at ud
    have few : (spansOf (serve gone ds) (rows.map full)).length < 60 := by
      rw [spans_len, List.length_map]
      exact G.few
    change SpansAt H3 s (fullOf rows gone ds) at hs
    change ((fullOf rows gone ds).map Prod.fst).Nodup at ud
    change (fullOf rows gone ds).length < 60 at few
    generalize fullOf rows gone ds = sp at *
    obtain ⟨kvs, hd, hk⟩ := hs
    have many := pr_len hk
    walk_at "gon"
    refine ⟨s, _, hd, trivial, fun od => ?_⟩
    refine ⟨_, rfl, s, od, _, rfl, upd_same, fun Da hD => dc_rel (walk_items (d := s) (o := od) (kvs := kvs)) sp (fun x => Sum.inr x.1) many.symm (len_le (by omega)) (by
        have e : (sp.map fun x : Span => (Sum.inr x.1 : Key)) = (sp.map Prod.fst).map Sum.inr := by rw [List.map_map]; rfl
        rw [e]
        exact nodup_inr ud) (fun _ v x => v = .int x.2.1) (fun _ _ _ _ _ e => e) hD (fun _ e => e _ _ upd_same) ?_ ?_⟩
    · rintro i x v H5 H6 hx s5 ⟨t, y, u, rfl, fresh, rfl, hy, hv⟩
      cases hi : kvs[i]? with
      | none =>
        dsimp only at hy
        rw [hi] at hy
        cases hy
      | some kv =>
        obtain ⟨x', hx', ek, t2, eu, ht2⟩ := pr_at hk hi
        obtain rfl := Option.some.inj (hx.symm.trans hx')
        dsimp only at hy hv
        rw [hi] at hy hv
        obtain rfl : kV kv.1 = y := Option.some.inj hy
        obtain rfl : kv.2 = u := Option.some.inj hv
        rw [ek, eu]
        have ht5 : H5 t2 = some (.tup [.int x.2.1, .int x.2.2]) := s5 _ _ (by rw [upd_ne (fun z => by rw [z, hd] at ht2; cases ht2)]; exact ht2)
        have s6 := same_new (o := .tup [kV (Sum.inr x.1), V.ref t2]) fresh
        have ht : upd H5 t (.tup [kV (Sum.inr x.1), V.ref t2]) t = some (.tup [V.str x.1, V.ref t2]) := upd_same
        have ht6 := s6 _ _ ht5
        generalize upd H5 t (.tup [kV (Sum.inr x.1), V.ref t2]) = H6 at s6 ht ht6 ⊢
        refine ⟨s6, fun k z1 fin => ?_⟩
        walk_at "gon"
        refine ⟨rfl, ?_⟩
        walk_at "gon"
        exact fin _ _ (fun _ _ e => e) rfl
    · intro H5 acc s5 hacc pr
      rw [acc_dict pr] at hacc
      have h5d := s5 _ _ (upd_same (a := s))
      refine ⟨h5d, ?_⟩
      have sU := same_unlock hd s5
      have ne : Da ≠ s := fun z => by
        rw [z, h5d] at hacc
        cases hacc
      refine q Da _ (sA.trans sU) ?_
      rw [upd_ne ne, hacc]
      unfold dayEnt
      rw [List.map_map]
      rfl
abbrev s_ends : Stmt := top 26
theorem sc_ends : FnScope ["sheet", "lengths", "spans", "name", "_", "stop"] ["sheet", "lengths"] (C8.fnScope s_ends) := C8.fnScope_by (by decide +kernel)
theorem c_ends {C e : Addr} (D : DefX K mg "ends" s_ends) (T : T14 P w K mg base C e) : C8.Cal P w K mg base 5 "ends" (spEdge K C fun s => s.2.2) [] := by
  refine cal_of D sc_ends (fun _ _ _ _ _ _ us hl => match us, hl with | [_, _], _ => rfl) (fun vs H Q E h => ?_) (fun f cdv A outer s H vs Q E hr h => ?_)
  · obtain ⟨p, d, rows, gone, ds, rfl, _⟩ := h
    rfl
  · obtain ⟨p, d, rows, gone, ds, rfl, G, L, q⟩ := h
    have nd := sc_ends.nd
    have hu := hu_of hr
    refine ⟨_, (pss_cons (ps_set (i := 2) nd rfl (Or.inl rfl) (C8.pe_c T.c_spans hr (by decide) (by rfl) (pa_cons (C8.pe_c T.c_full_lines hr (by decide) (by rfl) (pa_cons (pv 0) pa_nil)) (pa_cons (C8.pe_c T.c_served_days hr (by decide) (by rfl) (pa_cons (pv 0) (pa_cons (pv 1) pa_nil))) pa_nil))))
  (pss_one (ps_ret (pe_lock (pe_dc (own := [("name", 3), ("_", 4), ("stop", 5)]) (g := (gTup K 2 (gCons (gName 3) (gCons (gTup K 2 (gCons (gName 4) (gCons (gName 5) gNil))) gNil)))) rfl nd (pi_items (pv 2)) (blkOk_by (N := _) (by rfl)) (fun _ _ _ _ _ => (pg_tup (n := 2) rfl (pgs_cons (pg_name (i := 3) nd rfl (Or.inl rfl)) (pgs_cons (pg_tup (n := 2) rfl (pgs_cons (pg_name (i := 4) nd rfl (Or.inl rfl)) (pgs_cons (pg_name (i := 5) nd rfl (Or.inl rfl)) pgs_nil))) pgs_nil)))) (fun _ _ _ _ _ => pts_nil) (fun _ _ _ _ _ => (pv 3)) (fun _ _ _ _ _ => (pv 5))))))), ?_⟩
    walk_at "in"
    walk_at "gon"
    refine ⟨p, rows, gone, rfl, G, fun l ws H1 s1 hl hrows => ?_⟩
    walk_at "gon"
    refine ⟨p, d, rows, gone, ds, rfl, G.mono s1, L.mono s1, fun a H2 s2 ha => ?_⟩
    walk_at "gon"
    refine ⟨l, a, ws, rows.map full, _, rfl, s2 _ _ hl, RowsAt.mono (sameT s2) hrows, G.ok.full, by rw [List.length_map]; exact G.few, ha, sub_full, fun s H3 s3 hs => ?_⟩
    have sA := s1.trans (s2.trans s3)
    rw [full_spans] at hs
    have ud : (names (rows.map full)).Nodup := G.ok.full.unlike
    rw [← spans_names (serve gone ds) (rows.map full)] at ud
    have few : (spansOf (serve gone ds) (rows.map full)).length < 60 := by
      rw [spans_len, List.length_map]
      exact G.few
    change SpansAt H3 s (fullOf rows gone ds) at hs
    change ((fullOf rows gone ds).map Prod.fst).Nodup at ud
    change (fullOf rows gone ds).length < 60 at few
    generalize fullOf rows gone ds = sp at *
    obtain ⟨kvs, hd, hk⟩ := hs
    have many := pr_len hk
    walk_at "gon"
    refine ⟨s, _, hd, trivial, fun od => ?_⟩
    refine ⟨_, rfl, s, od, _, rfl, upd_same, fun Da hD => dc_rel (walk_items (d := s) (o := od) (kvs := kvs)) sp (fun x => Sum.inr x.1) many.symm (len_le (by omega)) (by
        have e : (sp.map fun x : Span => (Sum.inr x.1 : Key)) = (sp.map Prod.fst).map Sum.inr := by rw [List.map_map]; rfl
        rw [e]
        exact nodup_inr ud) (fun _ v x => v = .int x.2.2) (fun _ _ _ _ _ e => e) hD (fun _ e => e _ _ upd_same) ?_ ?_⟩
    · rintro i x v H5 H6 hx s5 ⟨t, y, u, rfl, fresh, rfl, hy, hv⟩
      cases hi : kvs[i]? with
      | none =>
        dsimp only at hy
        rw [hi] at hy
        cases hy
      | some kv =>
        obtain ⟨x', hx', ek, t2, eu, ht2⟩ := pr_at hk hi
        obtain rfl := Option.some.inj (hx.symm.trans hx')
        dsimp only at hy hv
        rw [hi] at hy hv
        obtain rfl : kV kv.1 = y := Option.some.inj hy
        obtain rfl : kv.2 = u := Option.some.inj hv
        rw [ek, eu]
        have ht5 : H5 t2 = some (.tup [.int x.2.1, .int x.2.2]) := s5 _ _ (by rw [upd_ne (fun z => by rw [z, hd] at ht2; cases ht2)]; exact ht2)
        have s6 := same_new (o := .tup [kV (Sum.inr x.1), V.ref t2]) fresh
        have ht : upd H5 t (.tup [kV (Sum.inr x.1), V.ref t2]) t = some (.tup [V.str x.1, V.ref t2]) := upd_same
        have ht6 := s6 _ _ ht5
        generalize upd H5 t (.tup [kV (Sum.inr x.1), V.ref t2]) = H6 at s6 ht ht6 ⊢
        refine ⟨s6, fun k z1 fin => ?_⟩
        walk_at "gon"
        refine ⟨rfl, ?_⟩
        walk_at "gon"
        exact fin _ _ (fun _ _ e => e) rfl
    · intro H5 acc s5 hacc pr
      rw [acc_dict pr] at hacc
      have h5d := s5 _ _ (upd_same (a := s))
      refine ⟨h5d, ?_⟩
      have sU := same_unlock hd s5
      have ne : Da ≠ s := fun z => by
        rw [z, h5d] at hacc
        cases hacc
      refine q Da _ (sA.trans sU) ?_
      rw [upd_ne ne, hacc]
      unfold dayEnt
      rw [List.map_map]
      rfl
end
end Tm
set_option maxRecDepth 100000
set_option maxHeartbeats 4000000
namespace Tm
open PySem PySem.Spec PyProof.Rows L2
section
variable {P : Program} {w : World} {K : PySem.W.Frag} {mg : Str → Option Value} {base : Heap}
local macro_rules | `(tactic| walk_at "in") => `(tactic| dsimp only [cxOf, L2.start, List.map, List.length, Nat.reduceAdd, Nat.reduceSub, List.replicate, List.cons_append, List.nil_append])
local macro_rules | `(tactic| walk_at "num") => `(tactic| first
  | exact Or.inl ⟨by omega, by omega⟩ | exact Or.inr ⟨by omega, by omega⟩ | exact ⟨by omega, by omega⟩ | exact ⟨by decide, by decide, by omega⟩ | (show (0 : Int) < _; omega))
local macro_rules | `(tactic| walk_at "go1") => `(tactic| with_reducible first
  | refine x_seq ?_ | refine x_asg ?_ | refine x_ret ?_ | refine x_retN ?_ | refine x_drop ?_ | refine x_next ?_ | refine x_ifS ?_ | refine x_par ?_
  | refine x_var (by with_unfolding_all exact rfl) ?_
  | refine x_C ?_ | refine x_op ?_ | refine x_rI0 ?_ | refine x_un ?_ | refine x_rU ?_ | refine x_cb ?_ | refine x_nil ?_ | refine x_cons ?_ | refine x_test ?_ | refine x_tB ?_ | refine x_bl2 ?_
  | refine x_eq (by with_unfolding_all exact rfl) ?_ | refine x_ne (by with_unfolding_all exact rfl) ?_
  | refine x_and ?_ | refine x_or ?_ | refine x_not ?_ | refine x_andV ?_ | refine x_orV ?_ | refine x_notV ?_ | refine x_if ?_ | refine x_chain ?_ | refine x_tup ?_ | refine x_lst ?_ | refine x_call ?_ | refine x_sl ?_ | refine x_noPart ?_ | refine x_part ?_
  | refine x_int ?_ | refine x_int1 ?_ | refine x_max2 ?_ | refine x_min2 ?_ | refine x_dgetT ?_ | refine x_dputT ?_ | refine x_dinT ?_ | refine x_dnotinT ?_ | refine x_disp ?_ | refine x_pairs ?_ | refine x_pairs0 ?_ | refine x_dnew ?_ | refine x_ckw ?_ | refine x_fldS ?_ | refine x_fld ?_ | refine x_make ?_ | refine x_makeK ?_ | refine x_meth ?_ | refine x_prop ?_ | refine x_gTup (sqT (by assumption)) (by with_unfolding_all exact rfl) ?_ | refine x_gCons ?_ | refine x_gNil ?_ | refine iteT ?_ | refine x_nbt ?_ | refine i_sn ?_ | refine i_ss ?_ | refine i_nsn ?_ | refine i_nss ?_ | refine x_nbf ?_ | refine iteF ?_
  | refine x_isi_str ?_ | refine x_isi_int ?_ | refine x_isi_intB ?_ | refine x_isi_tup (by assumption) ?_ | refine x_isi_dict (by assumption) ?_ | refine x_st2 ?_ | refine x_yes ?_ | refine x_yes2 ?_ | refine x_lenSet ?_)
local macro_rules | `(tactic| walk_at "go") => `(tactic| repeat (first
  | walk_at "go1"
  | ((with_reducible refine x_rI ?c ?_); (case c => walk_at "num"))
  | ((with_reducible refine x_gName ?_); (try dsimp only [L2.wipe, List.set_cons_zero, List.set_cons_succ]))))
local macro_rules | `(tactic| walk_at "gon") => `(tactic| repeat (first
  | walk_at "go1"
  | ((with_reducible refine x_lenT (sqT (by assumption)) ?_); (try simp only [List.length_cons, List.length_nil, List.length_map]))
  | ((with_reducible refine x_lenL (sqL (by assumption)) ?_); (try simp only [List.length_cons, List.length_nil, List.length_map]))
  | (with_reducible refine x_ixT (sqT (by assumption)) (by with_unfolding_all exact rfl) ?_)
  | (with_reducible refine x_ixL (sqL (by assumption)) (by with_unfolding_all exact rfl) ?_)
  | ((with_reducible refine x_rI ?c ?_); (case c => walk_at "num"))
  | ((with_reducible refine x_gName ?_); (try dsimp only [L2.wipe, List.set_cons_zero, List.set_cons_succ]))
  | with_reducible refine i_t rfl ?_ | with_reducible refine i_f (fun e => absurd (V.int.inj e) (by omega)) ?_ | with_reducible refine i_t (congrArg V.int (by omega)) ?_ | with_reducible refine i_f (by decide +kernel) ?_ | with_reducible refine i_nt rfl ?_ | with_reducible refine i_nt (congrArg V.int (by omega)) ?_ | with_reducible refine i_nf (fun e => absurd (V.int.inj e) (by omega)) ?_
  | with_reducible refine i_t (by omega) ?_ | with_reducible refine i_f (by omega) ?_ | with_reducible refine i_nt (by omega) ?_ | with_reducible refine i_nf (by omega) ?_ | dsimp only))

structure T15 (P : Program) (w : World) (K : PySem.W.Frag) (mg : Str → Option Value) (base : Heap) (C e : Addr) : Prop extends T14 P w K mg base C e where
  c_end : C8.Cal P w K mg base 5 "end" (spEnd K C fullOf) []
  c_least_end : C8.Cal P w K mg base 5 "least_end" (spEnd K C leastOf) []
  c_begins : C8.Cal P w K mg base 5 "begins" (spEdge K C fun s => s.2.1) []
  c_ends : C8.Cal P w K mg base 5 "ends" (spEdge K C fun s => s.2.2) []
  m_Sheet_quash : C8.Met P w K mg base 8 C "quash" (spQuash K C) []
def spUnlike : Sp := fun vs H Q _ => ∃ a ns, vs = [.ref a] ∧ H a = some (.lst (ns.map V.int)) ∧ ns.length < 1000 ∧ ∀ b H', Same H H' → H' b = some (.lst ((unlikeI ns).map V.int)) → Q (.ref b) H'
abbrev s_law_unlike : Stmt := top 37
theorem sc_law_unlike : FnScope ["things", "found", "thing"] ["things"] (C8.fnScope s_law_unlike) := C8.fnScope_by (by decide +kernel)
theorem c_law_unlike (D : DefX K mg "_law_unlike" s_law_unlike) (T : Bl mg) : C8.Cal P w K mg base 1 "_law_unlike" spUnlike [] := by
  refine cal_of D sc_law_unlike (fun _ _ _ _ _ _ us hl => match us, hl with | [_], _ => rfl) (fun vs H Q E h => ?_) (fun f cdv A outer s H vs Q E hr h => ?_)
  · obtain ⟨a, ns, rfl, _⟩ := h
    rfl
  · obtain ⟨a, ns, rfl, ha, few, q⟩ := h
    have nd := sc_law_unlike.nd
    refine ⟨_, (pss_cons (ps_set (i := 1) nd rfl (Or.inl rfl) (pe_lst pa_nil))
  (pss_cons (ps_for PassesOwn.never rfl (pi_list (pv 0)) (pg_name (i := 2) nd rfl (Or.inl rfl))
  (pss_one (ps_if (pt_cmpR (show OpR _ (compareOp .NotIn) (rIn K true) from op_notIn_seq) (pv 2) (pv 1) (by rfl)) (pss_one (ps_expr (pe_bm PySem.F.plainAttrs_list PySem.F.slot_list_append PySem.F.type_list_append mt_append (pv 1) (pa_cons (pv 2) pa_nil)))) pss_nil)))
  (pss_one (ps_ret (pv 1))))), ?_⟩
    walk_at "in"
    walk_at "gon"
    refine ⟨len_le (by simp), fun p hp => ?_⟩
    walk_at "gon"
    refine ⟨_, rfl, a, rfl, ⟨_, sqL (same_new hp _ _ ha)⟩, for_it (walk_list (K := K) (a := a) (xs := ns.map V.int)) (fun i σ' H' => ∃ v2, σ' = [some (.ref a), some (.ref p), v2] ∧ Same H H' ∧ H' p = some (.lst ((unlikeI (ns.take i)).map V.int)) ∧ (unlikeI (ns.take i)).length ≤ i)
      ⟨_, rfl, same_new hp, upd_same, Nat.le_refl _⟩ ?_ ?_ ?_⟩
    · rintro i σ' H' _ ⟨v2, rfl, sH, _⟩
      exact sqL (sH _ _ ha)
    · rintro i x σ' H2 H3 hi ⟨v2, rfl, sH, hp2, le⟩ ⟨rfl, hv⟩
      rw [List.getElem?_map] at hv
      obtain ⟨n, hn, rfl⟩ := Option.map_eq_some_iff.mp hv
      rw [List.length_map] at hi
      have next : unlikeI (ns.take (i + 1)) = if n ∈ unlikeI (ns.take i) then unlikeI (ns.take i) else unlikeI (ns.take i) ++ [n] := by
        rw [take_snoc hn]
        unfold unlikeI
        rw [List.foldl_append]
        rfl
      walk_at "gon"
      refine x_ninLI (sqL hp2) ?_
      walk_at "gon"
      by_cases c : n ∈ unlikeI (ns.take i)
      · refine i_nt c ?_
        walk_at "gon"
        rw [if_pos c] at next
        exact ⟨_, rfl, sH, by rw [next]; exact hp2, by rw [next]; omega⟩
      · refine i_nf c ?_
        walk_at "gon"
        rw [if_neg c] at next
        refine ⟨_, rfl, .inl ⟨rfl, _, sqL hp2⟩, ?_⟩
        walk_at "gon"
        refine x_append hp2 (by rw [List.length_map]; omega) ?_
        walk_at "gon"
        exact ⟨_, rfl, same_put sH hp, by rw [next, List.map_append]; exact upd_same, by rw [next, List.length_append]; simp; omega⟩
    · rintro σ' H' ⟨v2, rfl, sH, hp2, _⟩
      rw [List.length_map, List.take_length] at hp2
      walk_at "gon"
      exact q p H' sH hp2
end
end Tm
set_option maxRecDepth 100000
set_option maxHeartbeats 4000000
namespace Tm
open PySem PySem.Spec PyProof.Rows L2
section
variable {P : Program} {w : World} {K : PySem.W.Frag} {mg : Str → Option Value} {base : Heap}
local macro_rules | `(tactic| walk_at "in") => `(tactic| dsimp only [cxOf, L2.start, List.map, List.length, Nat.reduceAdd, Nat.reduceSub, List.replicate, List.cons_append, List.nil_append])
local macro_rules | `(tactic| walk_at "num") => `(tactic| first
  | exact Or.inl ⟨by omega, by omega⟩ | exact Or.inr ⟨by omega, by omega⟩ | exact ⟨by omega, by omega⟩ | exact ⟨by decide, by decide, by omega⟩ | (show (0 : Int) < _; omega))
local macro_rules | `(tactic| walk_at "go1") => `(tactic| with_reducible first
  | refine x_seq ?_ | refine x_asg ?_ | refine x_ret ?_ | refine x_retN ?_ | refine x_drop ?_ | refine x_next ?_ | refine x_ifS ?_ | refine x_par ?_
  | refine x_var (by with_unfolding_all exact rfl) ?_
  | refine x_C ?_ | refine x_op ?_ | refine x_rI0 ?_ | refine x_un ?_ | refine x_rU ?_ | refine x_cb ?_ | refine x_nil ?_ | refine x_cons ?_ | refine x_test ?_ | refine x_tB ?_ | refine x_bl2 ?_
  | refine x_eq (by with_unfolding_all exact rfl) ?_ | refine x_ne (by with_unfolding_all exact rfl) ?_
  | refine x_and ?_ | refine x_or ?_ | refine x_not ?_ | refine x_andV ?_ | refine x_orV ?_ | refine x_notV ?_ | refine x_if ?_ | refine x_chain ?_ | refine x_tup ?_ | refine x_lst ?_ | refine x_call ?_ | refine x_sl ?_ | refine x_noPart ?_ | refine x_part ?_
  | refine x_int ?_ | refine x_int1 ?_ | refine x_max2 ?_ | refine x_min2 ?_ | refine x_dgetT ?_ | refine x_dputT ?_ | refine x_dinT ?_ | refine x_dnotinT ?_ | refine x_disp ?_ | refine x_pairs ?_ | refine x_pairs0 ?_ | refine x_dnew ?_ | refine x_ckw ?_ | refine x_fldS ?_ | refine x_fld ?_ | refine x_make ?_ | refine x_makeK ?_ | refine x_meth ?_ | refine x_prop ?_ | refine x_gTup (sqT (by assumption)) (by with_unfolding_all exact rfl) ?_ | refine x_gCons ?_ | refine x_gNil ?_ | refine iteT ?_ | refine x_nbt ?_ | refine i_sn ?_ | refine i_ss ?_ | refine i_nsn ?_ | refine i_nss ?_ | refine x_nbf ?_ | refine iteF ?_
  | refine x_isi_str ?_ | refine x_isi_int ?_ | refine x_isi_intB ?_ | refine x_isi_tup (by assumption) ?_ | refine x_isi_dict (by assumption) ?_ | refine x_st2 ?_ | refine x_yes ?_ | refine x_yes2 ?_ | refine x_lenSet ?_)
local macro_rules | `(tactic| walk_at "go") => `(tactic| repeat (first
  | walk_at "go1"
  | ((with_reducible refine x_rI ?c ?_); (case c => walk_at "num"))
  | ((with_reducible refine x_gName ?_); (try dsimp only [L2.wipe, List.set_cons_zero, List.set_cons_succ]))))
local macro_rules | `(tactic| walk_at "gon") => `(tactic| repeat (first
  | walk_at "go1"
  | ((with_reducible refine x_lenT (sqT (by assumption)) ?_); (try simp only [List.length_cons, List.length_nil, List.length_map]))
  | ((with_reducible refine x_lenL (sqL (by assumption)) ?_); (try simp only [List.length_cons, List.length_nil, List.length_map]))
  | (with_reducible refine x_ixT (sqT (by assumption)) (by with_unfolding_all exact rfl) ?_)
  | (with_reducible refine x_ixL (sqL (by assumption)) (by with_unfolding_all exact rfl) ?_)
  | ((with_reducible refine x_rI ?c ?_); (case c => walk_at "num"))
  | ((with_reducible refine x_gName ?_); (try dsimp only [L2.wipe, List.set_cons_zero, List.set_cons_succ]))
  | with_reducible refine i_t rfl ?_ | with_reducible refine i_f (fun e => absurd (V.int.inj e) (by omega)) ?_ | with_reducible refine i_t (congrArg V.int (by omega)) ?_ | with_reducible refine i_f (by decide +kernel) ?_ | with_reducible refine i_nt rfl ?_ | with_reducible refine i_nt (congrArg V.int (by omega)) ?_ | with_reducible refine i_nf (fun e => absurd (V.int.inj e) (by omega)) ?_
  | with_reducible refine i_t (by omega) ?_ | with_reducible refine i_f (by omega) ?_ | with_reducible refine i_nt (by omega) ?_ | with_reducible refine i_nf (by omega) ?_ | dsimp only))

structure T16 (P : Program) (w : World) (K : PySem.W.Frag) (mg : Str → Option Value) (base : Heap) (C e : Addr) : Prop extends T15 P w K mg base C e where
  c_law_unlike : C8.Cal P w K mg base 1 "_law_unlike" spUnlike []
def spRowRight : Sp := fun vs H Q _ => ∃ m d : Nat, vs = [.int ((m : Int) + 1), .int (d : Int)] ∧ m < 8 ∧ d < 30 ∧ ans (.bl true) H Q
abbrev s_law_row_right : Stmt := top 38
theorem sc_law_row_right : FnScope ["many", "days", "words", "row", "at", "span", "word", "case", "beside"] ["many", "days"] (C8.fnScope s_law_row_right) := C8.fnScope_by (by decide +kernel)
theorem c_law_row_right {C e : Addr} (D : DefX K mg "_law_row_right" s_law_row_right) (T : T16 P w K mg base C e) : C8.Cal P w K mg base 9 "_law_row_right" spRowRight [] := by
  refine cal_of D sc_law_row_right (fun _ _ _ _ _ _ us hl => match us, hl with | [_, _], _ => rfl) (fun vs H Q E h => ?_) (fun f cdv A outer s H vs Q E hr h => ?_)
  · obtain ⟨m, d, rfl, _⟩ := h
    rfl
  · obtain ⟨m, d, rfl, hm, hd, q⟩ := h
    have nd := sc_law_row_right.nd
    have hu := hu_of hr
    have chk := row_all m hm d hd
    simp only [rowCheck, Bool.and_eq_true, decide_eq_true_eq] at chk
    obtain ⟨⟨⟨⟨⟨⟨⟨⟨⟨⟨⟨⟨⟨⟨k1, k2⟩, k3⟩, k4⟩, k5⟩, k6⟩, k7⟩, k8⟩, k9⟩, k10⟩, k11⟩, k12⟩, k13⟩, k14⟩, k15⟩ := chk
    refine ⟨_, (pss_cons (ps_set (i := 2) nd rfl (Or.inr rfl) (pe_slice sl_list (pe_callTy (call_list_strS rfl) (by rfl) T.b_list (by decide +kernel) (pa_cons pe_str pa_nil)) po_none (po_some (pv 0))))
  (pss_cons (ps_set (i := 3) nd rfl (Or.inl rfl) (pe_op op_cat (pe_lst (pa_cons (pe_tup (pa_cons pe_str (pa_cons (pe_tup (pa_cons pe_str pa_nil)) (pa_cons pe_int pa_nil)))) pa_nil)) (pe_lc (own := [("at", 4)]) (g := (gName 4)) rfl nd (pi_range2 (by rfl) T.b_range (pa_cons pe_int (pa_cons (pv 0) pa_nil))) (blkOk_by (N := _) (by rfl)) (fun _ _ _ _ _ => (pg_name (i := 4) nd rfl (Or.inl rfl))) (fun _ _ _ _ _ => pts_nil) (fun _ _ _ _ _ => (pe_tup (pa_cons (pe_ix (show IxR _ (rIxL K) from ix_list) (pv 2) (pv 4) (fun _ _ => rfl)) (pa_cons (pe_tup (pa_cons pe_str (pa_cons (pe_tup (pa_cons (pe_ix (show IxR _ (rIxL K) from ix_list) (pv 2) (pe_op op_sub (pv 4) pe_int) (fun _ _ => rfl)) pa_nil)) pa_nil))) (pa_cons pe_int pa_nil))))))))
  (pss_cons (ps_set (i := 5) nd rfl (Or.inl rfl) (pe_callTy (call_dictP rfl) (by rfl) T.b_dict (by decide +kernel) (pa_cons (pe_lc (own := [("word", 6)]) (g := (gName 6)) rfl nd (pi_list (pv 2)) (blkOk_by (N := _) (by rfl)) (fun _ _ _ _ _ => (pg_name (i := 6) nd rfl (Or.inl rfl))) (fun _ _ _ _ _ => pts_nil) (fun _ _ _ _ _ => (pe_tup (pa_cons (pv 6) (pa_cons (pv 1) pa_nil))))) pa_nil)))
  (pss_cons (ps_par (i := 7) (j := 8) rfl nd rfl rfl (by decide) rfl rfl (pa_cons (C8.pe_mk T.mk_Sheet_1_ hr (by decide) (by rfl) (pa_cons (pv 3) pa_nil)) (pa_cons (C8.pe_mk T.mk_Sheet_1_ hr (by decide) (by rfl) (pa_cons (pe_op op_cat (pe_lst (pa_cons (pe_tup (pa_cons pe_str (pa_cons (pe_tup (pa_cons pe_str pa_nil)) (pa_cons pe_int pa_nil)))) pa_nil)) (pe_lc (own := [("word", 6)]) (g := (gName 6)) rfl nd (pi_list (pe_slice sl_list (pv 2) (po_some pe_int) po_none)) (blkOk_by (N := _) (by rfl)) (fun _ _ _ _ _ => (pg_name (i := 6) nd rfl (Or.inl rfl))) (fun _ _ _ _ _ => pts_nil) (fun _ _ _ _ _ => (pe_tup (pa_cons (pv 6) (pa_cons (pe_tup (pa_cons pe_str (pa_cons pe_str pa_nil))) (pa_cons pe_int pa_nil))))))) pa_nil)) pa_nil)) rfl)
  (pss_cons (ps_if (PW.pt (pw_or (pt_cmpR op_ne (C8.pe_c T.c_end hr (by decide) (by rfl) (pa_cons (pv 7) (pa_cons (pv 5) pa_nil))) (pe_op op_mul (pe_op op_mul pe_int (pv 1)) (pv 0)) (nomark _)) (pw_or1 (pt_cmpR op_ne (C8.pe_c T.c_least_end hr (by decide) (by rfl) (pa_cons (pv 7) (pa_cons (pv 5) pa_nil))) (pe_op op_add (pe_op op_mul pe_int (pv 1)) (pe_op op_mul (pe_op op_mul pe_int (pv 1)) (pe_op op_sub (pv 0) pe_int))) (nomark _))))) (pss_one (ps_ret pe_bl)) pss_nil)
  (pss_cons (ps_if (PW.pt (pw_or (pt_cmpR op_ne (pe_dget hu (C8.pe_c T.c_begins hr (by decide) (by rfl) (pa_cons (pv 7) (pa_cons (pv 5) pa_nil))) (pe_ix (show IxR _ (rIxL K) from ix_list) (pv 2) (pe_un un_neg pe_int) (fun _ _ => rfl)) (fun _ _ => rfl)) (pe_op op_mul (pe_op op_mul pe_int (pv 1)) (pe_op op_sub (pv 0) pe_int)) (nomark _)) (pw_or1 (pt_cmpR op_ne (C8.pe_c T.c_end hr (by decide) (by rfl) (pa_cons (C8.pe_mt T.m_Sheet_quash hr (by decide) (pv 7) (pa_cons pe_str pa_nil)) (pa_cons (pv 5) pa_nil))) (pe_op op_mul (pe_op op_mul pe_int (pv 1)) (pe_op op_sub (pv 0) pe_int)) (nomark _))))) (pss_one (ps_ret pe_bl)) pss_nil)
  (pss_one (ps_ret (pe_and (pe_cmpR op_eq (C8.pe_c T.c_end hr (by decide) (by rfl) (pa_cons (pv 8) (pa_cons (pv 5) pa_nil))) (pe_op op_mul pe_int (pv 1)) (nomark _)) (pe_and (pe_cmpR op_eq (C8.pe_c T.c_least_end hr (by decide) (by rfl) (pa_cons (pv 8) (pa_cons (pv 5) pa_nil))) (pe_op op_mul pe_int (pv 1)) (nomark _)) (pe_one (pe_cmpR (op_eqD (hu64 hr)) (C8.pe_c T.c_law_unlike hr (by decide) (by rfl) (pa_cons (pe_listVals rfl (by rfl) T.b_list (by decide +kernel) (C8.pe_c T.c_begins hr (by decide) (by rfl) (pa_cons (pv 8) (pa_cons (pv 5) pa_nil)))) pa_nil)) (pe_lst (pa_cons pe_int pa_nil)) (nomark _))))))))))))), ?_⟩
    walk_at "in"
    walk_at "gon"
    refine ⟨_, rfl, abc_len, fun l hl => ?_⟩
    walk_at "gon"
    refine ⟨l, _, rfl, sqL upd_same, fun w0 hw0 => ?_⟩
    rw [abc, cut_words m hm]
    have s1 : Same H (upd (upd H l (.lst (wordsAll.map V.str))) w0 (.lst ((wordsOf m).map V.str))) := same_newT (same_new hl) hw0
    have hw1 : upd (upd H l (.lst (wordsAll.map V.str))) w0 (.lst ((wordsOf m).map V.str)) w0 = some (.lst ((wordsOf m).map V.str)) := upd_same
    generalize upd (upd H l (.lst (wordsAll.map V.str))) w0 (.lst ((wordsOf m).map V.str)) = H1 at s1 hw1 ⊢
    walk_at "gon"
    refine ⟨len_le (by simp), fun t1 ht1 => ?_⟩
    walk_at "gon"
    refine ⟨len_le (by simp), fun t2 ht2 => ?_⟩
    walk_at "gon"
    refine ⟨len_le (by simp), fun l1 hl1 => ?_⟩
    have s2 := ((same_new (o := .tup [.str "now"]) ht1).trans (same_new (o := .tup [.str "a", .ref t1, .int 12]) ht2)).trans (same_new (o := .lst [.ref t2]) hl1)
    have hA : RowAt (upd (upd (upd H1 t1 (.tup [.str "now"])) t2 (.tup [.str "a", .ref t1, .int 12])) l1 (.lst [.ref t2])) (.ref t2) ⟨"a", .now, 12⟩ :=
      ⟨t2, .ref t1, rfl, same_new hl1 _ _ upd_same, t1, rfl, same_new hl1 _ _ (same_new ht2 _ _ upd_same)⟩
    have hl1' : upd (upd (upd H1 t1 (.tup [.str "now"])) t2 (.tup [.str "a", .ref t1, .int 12])) l1 (.lst [.ref t2]) l1 = some (.lst [.ref t2]) := upd_same
    generalize upd (upd (upd H1 t1 (.tup [.str "now"])) t2 (.tup [.str "a", .ref t1, .int 12])) l1 (.lst [.ref t2]) = H2 at s2 hA hl1' ⊢
    have hw2 := s2 _ _ hw1
    walk_at "gon"
    refine ⟨_, rfl, 1, (m : Int) + 1, rfl, ⟨by omega, by omega, by omega, by omega⟩, fun Da hD => lc_rel (walk_range (lo := 1) (n := ((m : Int) + 1 - 1).toNat)) (rowsTail m) (by unfold rowsTail; rw [List.length_map, List.length_range]; omega) (len_le (by omega)) RowAt (fun _ _ _ _ m h => RowAt.mono m h) hD (fun _ _ => True.intro) ?_ ?_⟩
    · rintro i r v H3 H4 hr s3 ⟨rfl, rfl⟩
      unfold rowsTail at hr
      rw [List.getElem?_map] at hr
      obtain ⟨i', hi', rfl⟩ := Option.map_eq_some_iff.mp hr
      obtain ⟨hlt, rfl⟩ : i < m ∧ i = i' := by
        have := List.getElem?_eq_some_iff.mp hi'
        obtain ⟨h1, h2⟩ := this
        rw [List.getElem_range] at h2
        rw [List.length_range] at h1
        exact ⟨h1, h2⟩
      obtain ⟨a1, a2⟩ := at_words m hm i hlt
      have hw3 := s3 _ _ hw2
      refine ⟨fun _ _ e => e, fun k z1 fin => ?_⟩
      walk_at "gon"
      refine ⟨rfl, ?_⟩
      walk_at "gon"
      refine x_ixL (sqL hw3) (at_word a1 (by omega)) ?_
      walk_at "gon"
      refine x_ixL (sqL hw3) (at_word a2 (by omega)) ?_
      walk_at "gon"
      refine ⟨len_le (by simp), fun u1 hu1 => ?_⟩
      walk_at "gon"
      refine ⟨len_le (by simp), fun u2 hu2 => ?_⟩
      walk_at "gon"
      refine ⟨len_le (by simp), fun u3 hu3 => ?_⟩
      refine fin _ _ (((same_new hu1).trans (same_new hu2)).trans (same_new hu3)) ⟨u3, .ref u2, rfl, upd_same, u2, u1, rfl, same_new hu3 _ _ upd_same, same_new hu3 _ _ (same_new hu2 _ _ upd_same)⟩
    intro H3 acc s3 hacc pr
    have la := pr_len pr
    walk_at "gon"
    refine x_cat (s3 _ _ hl1') hacc (by rw [la]; unfold rowsTail; simp; omega) fun rr hrr => ?_
    have s4 := s3.trans (same_new (o := .lst ([.ref t2] ++ acc)) hrr)
    have hR : RowsAt (upd H3 rr (.lst ([.ref t2] ++ acc))) ([.ref t2] ++ acc) (rowsRow m) := .cons (RowAt.mono (sameT s4) hA) (RowsAt.mono (SameT.new hrr) pr)
    have hrr4 : upd H3 rr (.lst ([.ref t2] ++ acc)) rr = some (.lst ([.ref t2] ++ acc)) := upd_same
    generalize upd H3 rr (.lst ([.ref t2] ++ acc)) = H4 at s4 hR hrr4 ⊢
    have hw4 := s4 _ _ hw2
    walk_at "gon"
    refine ⟨_, rfl, w0, rfl, ⟨_, sqL hw4⟩, fun Db hDb => lc_rel (walk_list (K := K) (a := w0) (xs := (wordsOf m).map V.str)) (wordsOf m) (by simp) (len_le (by rw [List.length_map]; have := words_len m hm; omega)) (fun H v x => ∃ t, v = V.ref t ∧ H t = some (.tup [.str x, .int (d : Int)])) (fun _ _ _ _ mm ⟨t, e1, e2⟩ => ⟨t, e1, mm _ _ e2⟩) hDb (fun _ e => sqL (e _ _ hw4)) ?_ ?_⟩
    · rintro i x v H5 H6 hx s5 ⟨rfl, hv⟩
      rw [List.getElem?_map, hx] at hv
      obtain rfl := Option.some.inj hv
      refine ⟨fun _ _ e => e, fun k z1 fin => ?_⟩
      walk_at "gon"
      refine ⟨rfl, ?_⟩
      walk_at "gon"
      exact ⟨len_le (by simp), fun t ht => fin _ _ (same_new ht) ⟨t, rfl, upd_same⟩⟩
    intro H5 acc5 s5 hacc5 pr5
    obtain ⟨ps, e5, pp⟩ := pairs_of (K := K) pr5
    rw [e5] at hacc5
    walk_at "gon"
    refine ⟨Db, ps, _, rfl, sqL hacc5, pp, fun dd hdd => ?_⟩
    have md : mergeK [] (dayEnt ((wordsOf m).map fun x => (x, (d : Int)))) = dayEnt (daysRow m d) := merge_days (by rw [show ((wordsOf m).map fun x => (x, (d : Int))) = daysRow m d from rfl, days_fst]; exact k14)
    rw [md]
    have s6 := s5.trans (same_new (o := .dK (dayEnt (daysRow m d))) hdd)
    have hdd6 : upd H5 dd (.dK (dayEnt (daysRow m d))) dd = some (.dK (dayEnt (daysRow m d))) := upd_same
    generalize upd H5 dd (.dK (dayEnt (daysRow m d))) = H6 at s6 hdd6 ⊢
    have hR6 := RowsAt.mono (sameT s6) hR
    walk_at "gon"
    refine mk_in (rows := rowsRow m) ⟨s6 _ _ hrr4, hR6, k5, named_of k1, T.em _, List.nodup_nil, fun _ h => nomatch h⟩ fun x H7 s7 sh => ?_
    have G7 : Good K C H7 x (rowsRow m) [] := ⟨sh, k5, named_of k1, List.nodup_nil, fun _ h => nomatch h⟩
    have L7 : LenOk H7 dd (daysRow m d) (rowsRow m) := len_of (s7 _ _ hdd6) k3
    have M7 : LenOk H7 dd (daysRow m d) (rowsBes m) := len_of (s7 _ _ hdd6) k4
    have hw7 := s7 _ _ (s6 _ _ hw4)
    have sA := s1.trans (s2.trans (s4.trans (s6.trans s7)))
    clear s2 s3 s4 s5 s6 s7
    walk_at "gon"
    refine ⟨len_le (by simp), fun t1 ht1 => ?_⟩
    walk_at "gon"
    refine ⟨len_le (by simp), fun t2 ht2 => ?_⟩
    walk_at "gon"
    refine ⟨len_le (by simp), fun l1 hl1 => ?_⟩
    have s8 := ((same_new (o := .tup [.str "now"]) ht1).trans (same_new (o := .tup [.str "a", .ref t1, .int 3]) ht2)).trans (same_new (o := .lst [.ref t2]) hl1)
    have hA8 : RowAt (upd (upd (upd H7 t1 (.tup [.str "now"])) t2 (.tup [.str "a", .ref t1, .int 3])) l1 (.lst [.ref t2])) (.ref t2) ⟨"a", .now, 3⟩ :=
      ⟨t2, .ref t1, rfl, same_new hl1 _ _ upd_same, t1, rfl, same_new hl1 _ _ (same_new ht2 _ _ upd_same)⟩
    have hl8 : upd (upd (upd H7 t1 (.tup [.str "now"])) t2 (.tup [.str "a", .ref t1, .int 3])) l1 (.lst [.ref t2]) l1 = some (.lst [.ref t2]) := upd_same
    generalize upd (upd (upd H7 t1 (.tup [.str "now"])) t2 (.tup [.str "a", .ref t1, .int 3])) l1 (.lst [.ref t2]) = H8 at s8 hA8 hl8 ⊢
    have hw8 := s8 _ _ hw7
    walk_at "gon"
    refine ⟨_, rfl, 1, rfl, w0, _, rfl, sqL hw8, fun c0 hc0 => ⟨c0, rfl, ⟨_, sqL upd_same⟩, fun De hDe => ?_⟩⟩
    rw [cut_tail m hm] at hDe ⊢
    have s9 := same_new (o := .lst (((wordsOf m).drop 1).map V.str)) hc0
    have hc9 : upd H8 c0 (.lst (((wordsOf m).drop 1).map V.str)) c0 = some (.lst (((wordsOf m).drop 1).map V.str)) := upd_same
    generalize upd H8 c0 (.lst (((wordsOf m).drop 1).map V.str)) = H9 at s9 hc9 hDe ⊢
    refine lc_rel (walk_list (K := K) (a := c0) (xs := ((wordsOf m).drop 1).map V.str)) (besTail m) (by unfold besTail; rw [List.length_map, List.length_map]) (len_le (by rw [List.length_map, List.length_drop]; have := words_len m hm; omega)) RowAt (fun _ _ _ _ m h => RowAt.mono m h) hDe (fun _ e => sqL (e _ _ hc9)) ?_ ?_
    · rintro i r v H10 H11 hr s10 ⟨rfl, hv⟩
      unfold besTail at hr
      rw [List.getElem?_map] at hr hv
      obtain ⟨x0, hx0, rfl⟩ := Option.map_eq_some_iff.mp hr
      rw [hx0] at hv
      obtain rfl := Option.some.inj hv
      refine ⟨fun _ _ e => e, fun k z1 fin => ?_⟩
      walk_at "gon"
      refine ⟨rfl, ?_⟩
      walk_at "gon"
      refine ⟨len_le (by simp), fun u1 hu1 => ?_⟩
      walk_at "gon"
      refine ⟨len_le (by simp), fun u2 hu2 => ?_⟩
      exact fin _ _ ((same_new hu1).trans (same_new hu2)) ⟨u2, .ref u1, rfl, upd_same, u1, rfl, same_new hu2 _ _ upd_same⟩
    intro H10 acc10 s10 hacc10 pr10
    have la10 := pr_len pr10
    walk_at "gon"
    refine x_cat (s10 _ _ (s9 _ _ hl8)) hacc10 (by rw [la10]; unfold besTail; rw [List.length_map, List.length_drop]; have := words_len m hm; simp; omega) fun r2 hr2 => ?_
    have s11 := (s9.trans s10).trans (same_new (o := .lst ([.ref t2] ++ acc10)) hr2)
    have hR11 : RowsAt (upd H10 r2 (.lst ([.ref t2] ++ acc10))) ([.ref t2] ++ acc10) (rowsBes m) := .cons (RowAt.mono (sameT s11) hA8) (RowsAt.mono (SameT.new hr2) pr10)
    have hr11 : upd H10 r2 (.lst ([.ref t2] ++ acc10)) r2 = some (.lst ([.ref t2] ++ acc10)) := upd_same
    generalize upd H10 r2 (.lst ([.ref t2] ++ acc10)) = H11 at s11 hR11 hr11 ⊢
    walk_at "gon"
    refine mk_in (rows := rowsBes m) ⟨hr11, hR11, k6, named_of k2, T.em _, List.nodup_nil, fun _ h => nomatch h⟩ fun y H12 s12 sh12 => ?_
    have B : Good K C H12 y (rowsBes m) [] := ⟨sh12, k6, named_of k2, List.nodup_nil, fun _ h => nomatch h⟩
    have sB := s8.trans (s11.trans s12)
    have G := G7.mono sB
    have L := L7.mono sB
    have M := M7.mono sB
    have hw := sB _ _ hw7
    have sA := sA.trans sB
    clear s8 s9 s10 s11 s12 sB G7 L7 M7
    walk_at "gon"
    refine ⟨_, _, rfl, ?_⟩
    dsimp only [List.set_cons_zero, List.set_cons_succ]
    walk_at "gon"
    refine ⟨x, dd, _, [], _, rfl, G, L, fun H13 s13 => ?_⟩
    walk_at "gon"
    refine i_nt (congrArg V.int k7) ?_
    walk_at "gon"
    refine ⟨x, dd, _, [], _, rfl, G.mono s13, L.mono s13, fun H14 s14 => ?_⟩
    have sC := s13.trans s14
    walk_at "gon"
    refine i_nt (congrArg V.int k8) ?_
    walk_at "gon"
    refine ⟨x, dd, _, [], _, rfl, G.mono sC, L.mono sC, fun a15 H15 s15 ha15 => ?_⟩
    have sD := sC.trans s15
    walk_at "gon"
    refine x_ixL (sqL (sD _ _ hw)) (last_word m hm) ?_
    walk_at "gon"
    refine x_dget ha15 (dayEnt_val.trans (congrArg (Option.map V.int) k9)) ?_
    walk_at "gon"
    obtain ⟨dx, lx, qx, vx, hx, _⟩ := (G.mono sD).here
    refine ⟨x, dx, _, rfl, hx, rfl, ?_⟩
    walk_at "gon"
    refine ⟨x, "a", _, [], rfl, G.mono sD, k15, by simp, fun z ys H16 s16 perm Gz => ?_⟩
    obtain rfl : ys = [("a" : Str)] := List.perm_singleton.mp perm
    have sE := sD.trans s16
    walk_at "gon"
    refine ⟨z, dd, _, _, _, rfl, Gz, L.mono sE, fun H17 s17 => ?_⟩
    have sF := sE.trans s17
    walk_at "gon"
    refine i_nt (congrArg V.int k10) ?_
    walk_at "gon"
    refine ⟨y, dd, _, [], _, rfl, B.mono sF, M.mono sF, fun H18 s18 => ?_⟩
    have sG := sF.trans s18
    walk_at "gon"
    refine i_t (congrArg V.int k11) ?_
    walk_at "gon"
    refine ⟨y, dd, _, [], _, rfl, B.mono sG, M.mono sG, fun H19 s19 => ?_⟩
    have sH := sG.trans s19
    walk_at "gon"
    refine i_t (congrArg V.int k12) ?_
    walk_at "gon"
    refine x_listVals ?_
    walk_at "gon"
    refine ⟨y, dd, _, [], _, rfl, B.mono sH, M.mono sH, fun a20 H20 s20 ha20 => ⟨a20, _, rfl, ha20, fun l20 hl20 => ?_⟩⟩
    have sI := (sH.trans s20).trans (same_new (o := .lst ((dayEnt ((fullOf (rowsBes m) [] (daysRow m d)).map fun s => (s.1, s.2.1))).map Prod.snd)) hl20)
    have e20 : (dayEnt ((fullOf (rowsBes m) [] (daysRow m d)).map fun s => (s.1, s.2.1))).map Prod.snd = ((fullG (rowsBes m) [] (daysRow m d)).map fun s => s.2.1).map V.int := by
      unfold dayEnt
      rw [List.map_map, List.map_map, List.map_map]
      rfl
    walk_at "gon"
    refine ⟨l20, _, rfl, by rw [upd_same, e20], by rw [List.length_map, show fullG (rowsBes m) [] (daysRow m d) = spansOf _ _ from rfl, spans_len, List.length_map]; omega, fun b21 H21 s21 hb => ?_⟩
    rw [k13] at hb
    walk_at "gon"
    refine ⟨len_le (by simp), fun p22 hp22 => ?_⟩
    have s22 := same_new (o := .lst [.int 0]) hp22
    refine ⟨.list [.int 0], .list [.int 0], .lst (sqL (s22 _ _ hb)) (.cons (.int 0) .nil), .lst (sqL upd_same) (.cons (.int 0) .nil), by decide +kernel, by decide +kernel, ?_⟩
    exact q _ (sA.trans (sI.trans (s21.trans s22)))
end
end Tm
set_option maxRecDepth 100000
set_option maxHeartbeats 4000000
namespace Tm
open PySem PySem.Spec PyProof.Rows L2
section
variable {P : Program} {w : World} {K : PySem.W.Frag} {mg : Str → Option Value} {base : Heap}
local macro_rules | `(tactic| walk_at "in") => `(tactic| dsimp only [cxOf, L2.start, List.map, List.length, Nat.reduceAdd, Nat.reduceSub, List.replicate, List.cons_append, List.nil_append])
local macro_rules | `(tactic| walk_at "num") => `(tactic| first
  | exact Or.inl ⟨by omega, by omega⟩ | exact Or.inr ⟨by omega, by omega⟩ | exact ⟨by omega, by omega⟩ | exact ⟨by decide, by decide, by omega⟩ | (show (0 : Int) < _; omega))
local macro_rules | `(tactic| walk_at "go1") => `(tactic| with_reducible first
  | refine x_seq ?_ | refine x_asg ?_ | refine x_ret ?_ | refine x_retN ?_ | refine x_drop ?_ | refine x_next ?_ | refine x_ifS ?_ | refine x_par ?_
  | refine x_var (by with_unfolding_all exact rfl) ?_
  | refine x_C ?_ | refine x_op ?_ | refine x_rI0 ?_ | refine x_un ?_ | refine x_rU ?_ | refine x_cb ?_ | refine x_nil ?_ | refine x_cons ?_ | refine x_test ?_ | refine x_tB ?_ | refine x_bl2 ?_
  | refine x_eq (by with_unfolding_all exact rfl) ?_ | refine x_ne (by with_unfolding_all exact rfl) ?_
  | refine x_and ?_ | refine x_or ?_ | refine x_not ?_ | refine x_andV ?_ | refine x_orV ?_ | refine x_notV ?_ | refine x_if ?_ | refine x_chain ?_ | refine x_tup ?_ | refine x_lst ?_ | refine x_call ?_ | refine x_sl ?_ | refine x_noPart ?_ | refine x_part ?_
  | refine x_int ?_ | refine x_int1 ?_ | refine x_max2 ?_ | refine x_min2 ?_ | refine x_dgetT ?_ | refine x_dputT ?_ | refine x_dinT ?_ | refine x_dnotinT ?_ | refine x_disp ?_ | refine x_pairs ?_ | refine x_pairs0 ?_ | refine x_dnew ?_ | refine x_ckw ?_ | refine x_fldS ?_ | refine x_fld ?_ | refine x_make ?_ | refine x_makeK ?_ | refine x_meth ?_ | refine x_prop ?_ | refine x_gTup (sqT (by assumption)) (by with_unfolding_all exact rfl) ?_ | refine x_gCons ?_ | refine x_gNil ?_ | refine iteT ?_ | refine x_nbt ?_ | refine i_sn ?_ | refine i_ss ?_ | refine i_nsn ?_ | refine i_nss ?_ | refine x_nbf ?_ | refine iteF ?_
  | refine x_isi_str ?_ | refine x_isi_int ?_ | refine x_isi_intB ?_ | refine x_isi_tup (by assumption) ?_ | refine x_isi_dict (by assumption) ?_ | refine x_st2 ?_ | refine x_yes ?_ | refine x_yes2 ?_ | refine x_lenSet ?_)
local macro_rules | `(tactic| walk_at "go") => `(tactic| repeat (first
  | walk_at "go1"
  | ((with_reducible refine x_rI ?c ?_); (case c => walk_at "num"))
  | ((with_reducible refine x_gName ?_); (try dsimp only [L2.wipe, List.set_cons_zero, List.set_cons_succ]))))
local macro_rules | `(tactic| walk_at "gon") => `(tactic| repeat (first
  | walk_at "go1"
  | ((with_reducible refine x_lenT (sqT (by assumption)) ?_); (try simp only [List.length_cons, List.length_nil, List.length_map]))
  | ((with_reducible refine x_lenL (sqL (by assumption)) ?_); (try simp only [List.length_cons, List.length_nil, List.length_map]))
  | (with_reducible refine x_ixT (sqT (by assumption)) (by with_unfolding_all exact rfl) ?_)
  | (with_reducible refine x_ixL (sqL (by assumption)) (by with_unfolding_all exact rfl) ?_)
  | ((with_reducible refine x_rI ?c ?_); (case c => walk_at "num"))
  | ((with_reducible refine x_gName ?_); (try dsimp only [L2.wipe, List.set_cons_zero, List.set_cons_succ]))
  | with_reducible refine i_t rfl ?_ | with_reducible refine i_f (fun e => absurd (V.int.inj e) (by omega)) ?_ | with_reducible refine i_t (congrArg V.int (by omega)) ?_ | with_reducible refine i_f (by decide +kernel) ?_ | with_reducible refine i_nt rfl ?_ | with_reducible refine i_nt (congrArg V.int (by omega)) ?_ | with_reducible refine i_nf (fun e => absurd (V.int.inj e) (by omega)) ?_
  | with_reducible refine i_t (by omega) ?_ | with_reducible refine i_f (by omega) ?_ | with_reducible refine i_nt (by omega) ?_ | with_reducible refine i_nf (by omega) ?_ | dsimp only))

def spSplitRight : Sp := fun vs H Q _ => ∃ f s : Nat, vs = [.int (f : Int), .int (s : Int)] ∧ f < 20 ∧ s < 20 ∧ ans (.bl true) H Q
abbrev s_law_split_right : Stmt := top 39
theorem sc_law_split_right : FnScope ["first", "second", "case", "span", "stop"] ["first", "second"] (C8.fnScope s_law_split_right) := C8.fnScope_by (by decide +kernel)
theorem c_law_split_right {C e : Addr} (D : DefX K mg "_law_split_right" s_law_split_right) (T : T16 P w K mg base C e) : C8.Cal P w K mg base 9 "_law_split_right" spSplitRight [] := by
  refine cal_of D sc_law_split_right (fun _ _ _ _ _ _ us hl => match us, hl with | [_, _], _ => rfl) (fun vs H Q E h => ?_) (fun fa cdv A outer sh H vs Q E hr h => ?_)
  · obtain ⟨f, s, rfl, _⟩ := h
    rfl
  · obtain ⟨f, s, rfl, hf, hs, q⟩ := h
    have nd := sc_law_split_right.nd
    have hu := hu_of hr
    have chk := split_all f hf s hs
    simp only [splitCheck, Bool.and_eq_true, decide_eq_true_eq] at chk
    obtain ⟨⟨⟨⟨⟨⟨k1, k2⟩, k3⟩, k4⟩, k5⟩, k6⟩, k7⟩ := chk
    refine ⟨_, (pss_cons (ps_set (i := 2) nd rfl (Or.inl rfl) (C8.pe_mk T.mk_Sheet_1_ hr (by decide) (by rfl) (pa_cons (pe_lst (pa_cons (pe_tup (pa_cons pe_str (pa_cons (pe_tup (pa_cons pe_str pa_nil)) (pa_cons pe_int pa_nil)))) (pa_cons (pe_tup (pa_cons pe_str (pa_cons (pe_tup (pa_cons pe_str (pa_cons pe_str (pa_cons pe_int pa_nil)))) (pa_cons pe_int pa_nil)))) (pa_cons (pe_tup (pa_cons pe_str (pa_cons (pe_tup (pa_cons pe_str (pa_cons (pe_tup (pa_cons pe_str (pa_cons pe_str pa_nil))) pa_nil))) (pa_cons pe_int pa_nil)))) pa_nil)))) pa_nil)))
  (pss_cons (ps_set (i := 3) nd rfl (Or.inl rfl) (pe_disp (pps_cons pe_str (pv 0) (pps_cons pe_str (pv 1) (pps_cons pe_str pe_int pps_nil))) (by rfl) (by rfl) (fun z => by cases z) (by decide)))
  (pss_cons (ps_set (i := 4) nd rfl (Or.inl rfl) (pe_callB (call_max2' rfl) (by rfl) T.b_max (by decide +kernel) (pa_cons (pe_op op_mul pe_int (pv 1)) (pa_cons (pe_op op_add (pe_op op_mul pe_int (pv 0)) (pe_op op_mul pe_int (pv 1))) pa_nil))))
  (pss_cons (ps_if (PW.pt (pw_or (pt_cmpR (op_ne_dictA (hu0 hu)) (C8.pe_c T.c_ends hr (by decide) (by rfl) (pa_cons (pv 2) (pa_cons (pv 3) pa_nil))) (pe_disp (pps_cons pe_str (pe_op op_mul pe_int (pv 0)) (pps_cons pe_str (pv 4) (pps_cons pe_str (pe_op op_add (pv 4) pe_int) pps_nil))) (by rfl) (by rfl) (fun z => by cases z) (by decide)) (nomark _)) (pw_or1 (pt_cmpR op_ne (pe_dget hu (C8.pe_c T.c_begins hr (by decide) (by rfl) (pa_cons (pv 2) (pa_cons (pv 3) pa_nil))) pe_str (fun _ _ => rfl)) pe_int (nomark _))))) (pss_one (ps_ret pe_bl)) pss_nil)
  (pss_cons (ps_if (PW.pt (pw_or (pt_cmpR op_ne (C8.pe_c T.c_end hr (by decide) (by rfl) (pa_cons (C8.pe_mt T.m_Sheet_quash hr (by decide) (pv 2) (pa_cons pe_str pa_nil)) (pa_cons (pv 3) pa_nil))) (pe_op op_add (pe_op op_mul pe_int (pv 1)) pe_int) (nomark _)) (pw_or1 (pt_cmpR op_ne (C8.pe_c T.c_end hr (by decide) (by rfl) (pa_cons (C8.pe_mt T.m_Sheet_quash hr (by decide) (pv 2) (pa_cons pe_str pa_nil)) (pa_cons (pv 3) pa_nil))) (pe_op op_add (pe_op op_mul pe_int (pv 0)) pe_int) (nomark _))))) (pss_one (ps_ret pe_bl)) pss_nil)
  (pss_one (ps_ret (pe_cmpR op_eq (C8.pe_c T.c_end hr (by decide) (by rfl) (pa_cons (C8.pe_mt T.m_Sheet_quash hr (by decide) (C8.pe_mt T.m_Sheet_quash hr (by decide) (pv 2) (pa_cons pe_str pa_nil)) (pa_cons pe_str pa_nil)) (pa_cons (pv 3) pa_nil))) pe_int (nomark _))))))))), ?_⟩
    walk_at "in"
    walk_at "gon"
    refine ⟨len_le (by simp), fun t1 ht1 => ?_⟩
    walk_at "gon"
    refine ⟨len_le (by simp), fun t2 ht2 => ?_⟩
    walk_at "gon"
    refine ⟨len_le (by simp), fun t3 ht3 => ?_⟩
    walk_at "gon"
    refine ⟨len_le (by simp), fun t4 ht4 => ?_⟩
    walk_at "gon"
    refine ⟨len_le (by simp), fun t5 ht5 => ?_⟩
    walk_at "gon"
    refine ⟨len_le (by simp), fun t6 ht6 => ?_⟩
    walk_at "gon"
    refine ⟨len_le (by simp), fun t7 ht7 => ?_⟩
    walk_at "gon"
    refine ⟨len_le (by simp), fun l hl => ?_⟩
    generalize e1 : upd H t1 (.tup [.str "now"]) = H1 at *
    generalize e2 : upd H1 t2 (.tup [.str "a", .ref t1, .int 12]) = H2 at *
    generalize e3 : upd H2 t3 (.tup [.str "split", .str "a", .int 6]) = H3 at *
    generalize e4 : upd H3 t4 (.tup [.str "b", .ref t3, .int 12]) = H4 at *
    generalize e5 : upd H4 t5 (.tup [.str "b", .str "a"]) = H5 at *
    generalize e6 : upd H5 t6 (.tup [.str "behind", .ref t5]) = H6 at *
    generalize e7 : upd H6 t7 (.tup [.str "c", .ref t6, .int 12]) = H7 at *
    generalize e8 : upd H7 l (.lst [.ref t2, .ref t4, .ref t7]) = H8 at *
    have s1 : Same H H1 := by rw [← e1]; exact same_new ht1
    have s2 : Same H1 H2 := by rw [← e2]; exact same_new ht2
    have s3 : Same H2 H3 := by rw [← e3]; exact same_new ht3
    have s4 : Same H3 H4 := by rw [← e4]; exact same_new ht4
    have s5 : Same H4 H5 := by rw [← e5]; exact same_new ht5
    have s6 : Same H5 H6 := by rw [← e6]; exact same_new ht6
    have s7 : Same H6 H7 := by rw [← e7]; exact same_new ht7
    have s8 : Same H7 H8 := by rw [← e8]; exact same_new hl
    have sA : Same H H8 := s1.trans (s2.trans (s3.trans (s4.trans (s5.trans (s6.trans (s7.trans s8))))))
    have g1 : H8 t1 = some (.tup [.str "now"]) := s8 _ _ (s7 _ _ (s6 _ _ (s5 _ _ (s4 _ _ (s3 _ _ (s2 _ _ (by rw [← e1]; exact upd_same)))))))
    have g2 : H8 t2 = some (.tup [.str "a", .ref t1, .int 12]) := s8 _ _ (s7 _ _ (s6 _ _ (s5 _ _ (s4 _ _ (s3 _ _ (by rw [← e2]; exact upd_same))))))
    have g3 : H8 t3 = some (.tup [.str "split", .str "a", .int 6]) := s8 _ _ (s7 _ _ (s6 _ _ (s5 _ _ (s4 _ _ (by rw [← e3]; exact upd_same)))))
    have g4 : H8 t4 = some (.tup [.str "b", .ref t3, .int 12]) := s8 _ _ (s7 _ _ (s6 _ _ (s5 _ _ (by rw [← e4]; exact upd_same))))
    have g5 : H8 t5 = some (.tup [.str "b", .str "a"]) := s8 _ _ (s7 _ _ (s6 _ _ (by rw [← e5]; exact upd_same)))
    have g6 : H8 t6 = some (.tup [.str "behind", .ref t5]) := s8 _ _ (s7 _ _ (by rw [← e6]; exact upd_same))
    have g7 : H8 t7 = some (.tup [.str "c", .ref t6, .int 12]) := s8 _ _ (by rw [← e7]; exact upd_same)
    have g8 : H8 l = some (.lst [.ref t2, .ref t4, .ref t7]) := by rw [← e8]; exact upd_same
    have hR : RowsAt H8 [.ref t2, .ref t4, .ref t7] rows3 := .cons ⟨t2, _, rfl, g2, t1, rfl, g1⟩ (.cons ⟨t4, _, rfl, g4, t3, rfl, g3⟩ (.cons ⟨t7, _, rfl, g7, t6, t5, rfl, g6, g5⟩ .nil))
    clear e1 e2 e3 e4 e5 e6 e7 e8 s1 s2 s3 s4 s5 s6 s7 s8 g1 g2 g3 g4 g5 g6 g7
    walk_at "gon"
    refine mk_in (rows := rows3) ⟨g8, hR, by decide, named_of k1, T.em _, List.nodup_nil, fun _ h => nomatch h⟩ fun x H9 s9 sh9 => ?_
    have G9 : Good K C H9 x rows3 [] := ⟨sh9, by decide, named_of k1, List.nodup_nil, fun _ h => nomatch h⟩
    walk_at "gon"
    intro dd hdd
    walk_at "gon"
    refine ⟨upd_same, dayEnt (days3 f s), rfl, by simp [dayEnt, days3], ?_⟩
    rw [upd_upd, merge_days (ds := days3 f s) three_ud]
    have s10 := same_new (o := .dK (dayEnt (days3 f s))) hdd
    have hd10 : upd H9 dd (.dK (dayEnt (days3 f s))) dd = some (.dK (dayEnt (days3 f s))) := upd_same
    generalize upd H9 dd (.dK (dayEnt (days3 f s))) = H10 at s10 hd10 ⊢
    have L := len_of hd10 k2
    have G := G9.mono s10
    have sB := sA.trans (s9.trans s10)
    clear sA s9 s10 hdd hd10 G9 sh9
    walk_at "gon"
    refine ⟨x, dd, _, [], _, rfl, G, L, fun a11 H11 s11 ha11 => ?_⟩
    walk_at "gon"
    have ha : H11 a11 = some (.dK (dayEnt (ends3 f s))) := by
      rw [← k3]
      exact ha11
    intro p12 hp12
    walk_at "gon"
    refine ⟨upd_same, dayEnt (ends3 f s), rfl, by simp [dayEnt, ends3], ?_⟩
    rw [upd_upd, merge_days (ds := ends3 f s) three_ud]
    have s12 := same_new (o := .dK (dayEnt (ends3 f s))) hp12
    have sC := s11.trans s12
    refine ⟨a11, p12, _, _, rfl, rfl, s12 _ _ ha, upd_same, rfl, day_self (L := ends3 f s) three_ud, ?_⟩
    generalize upd H11 p12 (.dK (dayEnt (ends3 f s))) = H12 at s12 sC ⊢
    walk_at "gon"
    refine ⟨x, dd, _, [], _, rfl, G.mono sC, L.mono sC, fun a13 H13 s13 ha13 => ?_⟩
    have sD := sC.trans s13
    walk_at "gon"
    refine x_dget ha13 (dayEnt_val.trans (congrArg (Option.map V.int) k4)) ?_
    walk_at "gon"
    obtain ⟨dx, lx, qx, vx, hx, _⟩ := (G.mono sD).here
    refine ⟨x, dx, _, rfl, hx, rfl, ?_⟩
    walk_at "gon"
    refine ⟨x, "a", _, [], rfl, G.mono sD, in3.1, by simp, fun z ys H14 s14 perm Gz => ?_⟩
    obtain rfl : ys = [("a" : Str)] := List.perm_singleton.mp perm
    have sE := sD.trans s14
    walk_at "gon"
    refine ⟨z, dd, _, _, _, rfl, Gz, L.mono sE, fun H15 s15 => ?_⟩
    have sF := sE.trans s15
    walk_at "gon"
    refine i_nt (congrArg V.int k5) ?_
    walk_at "gon"
    refine ⟨x, dx, _, rfl, sF _ _ (by obtain ⟨dx2, lx2, qx2, vx2, hx2, _⟩ := G.here; have := sD _ _ hx2; rw [hx] at this; cases this; exact hx2), rfl, ?_⟩
    walk_at "gon"
    refine ⟨x, "b", _, [], rfl, G.mono sF, in3.2.1, by simp, fun z2 ys H16 s16 perm2 Gz2 => ?_⟩
    obtain rfl : ys = [("b" : Str)] := List.perm_singleton.mp perm2
    have sG := sF.trans s16
    walk_at "gon"
    refine ⟨z2, dd, _, _, _, rfl, Gz2, L.mono sG, fun H17 s17 => ?_⟩
    have sH := sG.trans s17
    walk_at "gon"
    refine i_nt (congrArg V.int k6) ?_
    walk_at "gon"
    obtain ⟨dx3, lx3, qx3, vx3, hx3, _⟩ := (G.mono sH).here
    refine ⟨x, dx3, _, rfl, hx3, rfl, ?_⟩
    walk_at "gon"
    refine ⟨x, "b", _, [], rfl, G.mono sH, in3.2.1, by simp, fun z3 ys H18 s18 perm3 Gz3 => ?_⟩
    obtain rfl : ys = [("b" : Str)] := List.perm_singleton.mp perm3
    have sI := sH.trans s18
    walk_at "gon"
    obtain ⟨dx4, lx4, qx4, vx4, hx4, _⟩ := Gz3.here
    refine ⟨z3, dx4, _, rfl, hx4, rfl, ?_⟩
    walk_at "gon"
    refine ⟨z3, "a", _, _, rfl, Gz3, in3.1, in3.2.2, fun z4 ys H19 s19 perm4 Gz4 => ?_⟩
    have sJ := sI.trans s19
    walk_at "gon"
    refine ⟨z4, dd, _, _, _, rfl, Gz4, L.mono sJ, fun H20 s20 => ?_⟩
    walk_at "gon"
    have k7' : lastOf (fullOf rows3 ys (days3 f s)) = 144 := by
      unfold fullOf
      rw [serve_perm perm4]
      exact k7
    rw [decide_eq_true (congrArg V.int k7')]
    exact q _ (sB.trans (sJ.trans s20))
end
end Tm
set_option maxRecDepth 100000
set_option maxHeartbeats 4000000
namespace Tm
open PySem PySem.Spec PyProof.Rows L2
section
variable {P : Program} {w : World} {K : PySem.W.Frag} {mg : Str → Option Value} {base : Heap}
local macro_rules | `(tactic| walk_at "in") => `(tactic| dsimp only [cxOf, L2.start, List.map, List.length, Nat.reduceAdd, Nat.reduceSub, List.replicate, List.cons_append, List.nil_append])
local macro_rules | `(tactic| walk_at "num") => `(tactic| first
  | exact Or.inl ⟨by omega, by omega⟩ | exact Or.inr ⟨by omega, by omega⟩ | exact ⟨by omega, by omega⟩ | exact ⟨by decide, by decide, by omega⟩ | (show (0 : Int) < _; omega))
local macro_rules | `(tactic| walk_at "go1") => `(tactic| with_reducible first
  | refine x_seq ?_ | refine x_asg ?_ | refine x_ret ?_ | refine x_retN ?_ | refine x_drop ?_ | refine x_next ?_ | refine x_ifS ?_ | refine x_par ?_
  | refine x_var (by with_unfolding_all exact rfl) ?_
  | refine x_C ?_ | refine x_op ?_ | refine x_rI0 ?_ | refine x_un ?_ | refine x_rU ?_ | refine x_cb ?_ | refine x_nil ?_ | refine x_cons ?_ | refine x_test ?_ | refine x_tB ?_ | refine x_bl2 ?_
  | refine x_eq (by with_unfolding_all exact rfl) ?_ | refine x_ne (by with_unfolding_all exact rfl) ?_
  | refine x_and ?_ | refine x_or ?_ | refine x_not ?_ | refine x_andV ?_ | refine x_orV ?_ | refine x_notV ?_ | refine x_if ?_ | refine x_chain ?_ | refine x_tup ?_ | refine x_lst ?_ | refine x_call ?_ | refine x_sl ?_ | refine x_noPart ?_ | refine x_part ?_
  | refine x_int ?_ | refine x_int1 ?_ | refine x_max2 ?_ | refine x_min2 ?_ | refine x_dgetT ?_ | refine x_dputT ?_ | refine x_dinT ?_ | refine x_dnotinT ?_ | refine x_disp ?_ | refine x_pairs ?_ | refine x_pairs0 ?_ | refine x_dnew ?_ | refine x_ckw ?_ | refine x_fldS ?_ | refine x_fld ?_ | refine x_make ?_ | refine x_makeK ?_ | refine x_meth ?_ | refine x_prop ?_ | refine x_gTup (sqT (by assumption)) (by with_unfolding_all exact rfl) ?_ | refine x_gCons ?_ | refine x_gNil ?_ | refine iteT ?_ | refine x_nbt ?_ | refine i_sn ?_ | refine i_ss ?_ | refine i_nsn ?_ | refine i_nss ?_ | refine x_nbf ?_ | refine iteF ?_
  | refine x_isi_str ?_ | refine x_isi_int ?_ | refine x_isi_intB ?_ | refine x_isi_tup (by assumption) ?_ | refine x_isi_dict (by assumption) ?_ | refine x_st2 ?_ | refine x_yes ?_ | refine x_yes2 ?_ | refine x_lenSet ?_)
local macro_rules | `(tactic| walk_at "go") => `(tactic| repeat (first
  | walk_at "go1"
  | ((with_reducible refine x_rI ?c ?_); (case c => walk_at "num"))
  | ((with_reducible refine x_gName ?_); (try dsimp only [L2.wipe, List.set_cons_zero, List.set_cons_succ]))))
local macro_rules | `(tactic| walk_at "gon") => `(tactic| repeat (first
  | walk_at "go1"
  | ((with_reducible refine x_lenT (sqT (by assumption)) ?_); (try simp only [List.length_cons, List.length_nil, List.length_map]))
  | ((with_reducible refine x_lenL (sqL (by assumption)) ?_); (try simp only [List.length_cons, List.length_nil, List.length_map]))
  | (with_reducible refine x_ixT (sqT (by assumption)) (by with_unfolding_all exact rfl) ?_)
  | (with_reducible refine x_ixL (sqL (by assumption)) (by with_unfolding_all exact rfl) ?_)
  | ((with_reducible refine x_rI ?c ?_); (case c => walk_at "num"))
  | ((with_reducible refine x_gName ?_); (try dsimp only [L2.wipe, List.set_cons_zero, List.set_cons_succ]))
  | with_reducible refine i_t rfl ?_ | with_reducible refine i_f (fun e => absurd (V.int.inj e) (by omega)) ?_ | with_reducible refine i_t (congrArg V.int (by omega)) ?_ | with_reducible refine i_f (by decide +kernel) ?_ | with_reducible refine i_nt rfl ?_ | with_reducible refine i_nt (congrArg V.int (by omega)) ?_ | with_reducible refine i_nf (fun e => absurd (V.int.inj e) (by omega)) ?_
  | with_reducible refine i_t (by omega) ?_ | with_reducible refine i_f (by omega) ?_ | with_reducible refine i_nt (by omega) ?_ | with_reducible refine i_nf (by omega) ?_ | dsimp only))

abbrev s_law_tape : Stmt := top 35
theorem sc_law_tape : FnScope ["script", "start", "mixed", "cell", "digits"] ["script", "start"] (C8.fnScope s_law_tape) := C8.fnScope_by (by decide +kernel)
theorem one30 : ((10 : Int) ^ (18 : Int).toNat) = 1000000000000000000 := by decide
/-- the numbers of the script stay within the model's line -/
theorem mix_bits {m z : Int} (h0 : 0 ≤ m) (h1 : m < 4294967296) (hz : Builtin.Int.intBits z ≤ 1048576) : (m * 30029 + z * z + 13).natAbs < 2 ^ 2097160 := by
  have a := lt_of_bits hz
  have b : (z * z).natAbs < 2 ^ (1048576 + 1048576) := wide_lt a a
  have e : (2 : Nat) ^ 2097160 = 2 ^ (1048576 + 1048576) * 256 := by
    rw [show (2097160 : Nat) = (1048576 + 1048576) + 8 from rfl, Nat.pow_add]
  have big : 2 ^ 60 ≤ 2 ^ (1048576 + 1048576) := Nat.pow_le_pow_right (by decide) (by decide)
  rw [e]
  generalize (2 : Nat) ^ (1048576 + 1048576) = B at *
  omega
theorem c_law_tape (D : DefX K mg "_law_tape" s_law_tape) (T : Bl mg) : C8.Cal P w K mg base 1 "_law_tape" (spTape K) [] := by
  refine cal_of D sc_law_tape (fun _ _ _ _ _ _ us hl => match us, hl with | [_, _], _ => rfl) (fun vs H Q E h => ?_) (fun f cdv A outer s H vs Q E hr h => ?_)
  · obtain ⟨a, ns, k, rfl, _⟩ := h
    rfl
  · obtain ⟨a, ns, k, rfl, hS, hb, hk0, hk1, q⟩ := h
    have nd := sc_law_tape.nd
    refine ⟨_, (pss_cons (ps_set (i := 2) nd rfl (Or.inl rfl) (pe_op op_add pe_int (pe_op op_mul (pv 1) pe_int)))
  (pss_cons (ps_for PassesOwn.never rfl (pi_list (pv 0)) (pg_name (i := 3) nd rfl (Or.inl rfl))
  (pss_one (ps_set (i := 2) nd rfl (Or.inl rfl) (pe_op op_add (pe_op op_mod (pe_callTy call_int1' (by rfl) T.b_int (by decide +kernel) (pa_cons (pe_op op_powB (pe_op op_add (pe_op op_add (pe_op op_mul (pv 2) pe_int) (pe_op op_mulB (pv 3) (pv 3))) pe_int) pe_int) pa_nil)) pe_int) pe_int))))
  (pss_cons (ps_set (i := 4) nd rfl (Or.inl rfl) (pe_ifExp (PW.pt (pw_and (pt_cmpR op_lt (pv 1) (pe_callB call_len_seq' (by rfl) T.b_len (by decide +kernel) (pa_cons (pv 0) pa_nil)) (nomark _)) (pw_and1 (pt_cmpR op_ge (pe_ix (show IxR _ (rIxL K) from ix_list) (pv 0) (pv 1) (fun _ _ => rfl)) (pe_op op_pow pe_int pe_int) (nomark _))))) (pe_op op_sub (pe_ix (show IxR _ (rIxL K) from ix_list) (pv 0) (pv 1) (fun _ _ => rfl)) (pe_op op_pow pe_int pe_int)) pe_int))
  (pss_one (ps_ret (pe_disp (pps_cons pe_str (pv 4) (pps_cons pe_str (pv 2) pps_nil)) (by rfl) (by rfl) (fun z => by cases z) (by decide))))))), ?_⟩
    walk_at "in"
    walk_at "go"
    refine ⟨_, rfl, a, rfl, ⟨_, hS⟩, for_list (K := K) (a := a) (xs := ns.map V.int) (fun _ s' H' => ∃ (m : Int) (v : Option V), s' = [some (.ref a), some (.int k), some (.int m), v, none] ∧ 0 ≤ m ∧ m < 4294967296 ∧ H' = H) ⟨101 + k * 53, none, rfl, by omega, by omega, rfl⟩ ?_ ?_ ?_⟩
    · rintro i s' H' _ ⟨_, _, _, _, _, rfl⟩
      exact hS
    · rintro i x s' H' hx ⟨m, v, rfl, hm0, hm1, rfl⟩
      obtain ⟨z, hz, rfl⟩ : ∃ z, z ∈ ns ∧ x = V.int z := by
        have hm := List.mem_of_getElem? hx
        rw [List.mem_map] at hm
        obtain ⟨z, h1, h2⟩ := hm
        exact ⟨z, h1, h2.symm⟩
      walk_at "go"
      have hbz := hb z hz
      have lz := mix_bits hm0 hm1 hbz
      refine x_rI (show CMulB z z from ?_) ?_
      · have a := lt_of_bits hbz
        have b := log_lt_of a (by decide)
        unfold CMulB
        omega
      walk_at "go"
      refine x_rI (show CPowB _ 2 from ?_) ?_
      · have b := log_lt_of lz (by decide)
        have c := bits_le_log (m * 30029 + z * z + 13)
        refine ⟨by decide, ?_⟩
        omega
      walk_at "go"
      refine ⟨_, some (.int z), rfl, ?_, ?_, rfl⟩
      · have := Int.emod_nonneg ((m * 30029 + z * z + 13) ^ (2 : Int).toNat) (show (2147483563 : Int) ≠ 0 by decide)
        omega
      · have := Int.emod_lt_of_pos ((m * 30029 + z * z + 13) ^ (2 : Int).toNat) (show (0 : Int) < 2147483563 by decide)
        omega
    · rintro s' H' ⟨m, v, rfl, hm0, hm1, rfl⟩
      walk_at "go"
      refine x_lenL hS ?_
      walk_at "go"
      have fin : ∀ z : Int, 0 ≤ z → tRet (tDisp [(tC (V.str "digits"), tVar 4), (tC (V.str "mixed"), tVar 2)]) { nx := fun _ H' => Q .non H', rt := Q } [some (.ref a), some (.int k), some (.int m), v, some (.int z)] H' := by
        intro z hz
        walk_at "go"
        intro p hp
        walk_at "go"
        refine ⟨upd_same, [(Sum.inr "digits", .int z), (Sum.inr "mixed", .int m)], rfl, by show 2 ≤ 15; decide, ?_⟩
        rw [upd_upd, mergeT]
        exact q p z m hp ⟨hz, hm0, hm1⟩
      refine i_2 (fun hlt => ?_) (fun hge => ?_)
      · rw [List.length_map] at hlt
        have hj : k.toNat < ns.length := by omega
        have at_ : atI (ns.map V.int) k = some (V.int ns[k.toNat]) := at_of (j := k.toNat) (by omega) (by rw [List.getElem?_map, List.getElem?_eq_getElem hj]; rfl)
        walk_at "go"
        refine x_ixL hS at_ ?_
        walk_at "go"
        rw [one30]
        refine i_2 (fun hge => ?_) (fun hlt => ?_)
        · walk_at "go"
          refine x_ixL hS at_ ?_
          walk_at "go"
          rw [one30]
          exact fin _ (by omega)
        · walk_at "go"
          exact fin 0 (by decide)
      · refine iteF ?_
        walk_at "go"
        exact fin 0 (by decide)
abbrev s_law_pick : Stmt := top 36
theorem sc_law_pick : FnScope ["tape", "many", "found", "once"] ["tape", "many"] (C8.fnScope s_law_pick) := C8.fnScope_by (by decide +kernel)
theorem c_law_pick (D : DefX K mg "_law_pick" s_law_pick) (T : Bl mg) : C8.Cal P w K mg base 1 "_law_pick" spPick [] := by
  refine cal_of D sc_law_pick (fun _ _ _ _ _ _ us hl => match us, hl with | [_, _], _ => rfl) (fun vs H Q E h => ?_) (fun f cdv A outer s H vs Q E hr h => ?_)
  · obtain ⟨d, D, M, n, rfl, _⟩ := h
    rfl
  · obtain ⟨d, D, M, n, rfl, hd, tp, hn0, hn1, q⟩ := h
    have nd := sc_law_pick.nd
    have hu := hu_of hr
    refine ⟨_, (pss_cons (ps_if (pt_cmpR op_ge (pe_dget hu (pv 0) pe_str (fun _ _ => rfl)) (pv 1) (nomark _)) (pss_cons (ps_set (i := 2) nd rfl (Or.inl rfl) (pe_op op_mod (pe_callTy call_int1' (by rfl) T.b_int (by decide +kernel) (pa_cons (pe_dget hu (pv 0) pe_str (fun _ _ => rfl)) pa_nil)) (pv 1)))
  (pss_cons (ps_dput hu (pv 0) pe_str (pe_op op_fdiv (pe_dget hu (pv 0) pe_str (fun _ _ => rfl)) (pv 1)) rfl)
  (pss_one (ps_ret (pv 2))))) pss_nil)
  (pss_cons (ps_dput hu (pv 0) pe_str (pe_op op_mod (pe_callTy call_int1' (by rfl) T.b_int (by decide +kernel) (pa_cons (pe_op op_add (pe_op op_mul (pe_dget hu (pv 0) pe_str (fun _ _ => rfl)) pe_int) pe_int) pa_nil)) pe_int) rfl)
  (pss_cons (ps_set (i := 3) nd rfl (Or.inl rfl) (pe_op op_mod (pe_callTy call_int1' (by rfl) T.b_int (by decide +kernel) (pa_cons (pe_op op_pow (pe_dget hu (pv 0) pe_str (fun _ _ => rfl)) pe_int) pa_nil)) pe_int))
  (pss_one (ps_ret (pe_op op_mod (pe_callTy call_int1' (by rfl) T.b_int (by decide +kernel) (pa_cons (pe_op op_fdiv (pe_op op_mod (pe_callTy call_int1' (by rfl) T.b_int (by decide +kernel) (pa_cons (pe_op op_pow (pv 3) pe_int) pa_nil)) pe_int) pe_int) pa_nil)) (pv 1))))))), ?_⟩
    walk_at "in"
    walk_at "go"
    refine x_tD hd ?_
    walk_at "go"
    refine i_2 (fun hge => ?_) (fun hlt => ?_)
    · walk_at "go"
      refine x_tD hd ?_
      walk_at "go"
      refine x_tD hd ?_
      walk_at "go"
      refine x_tDput hd ?_
      walk_at "go"
      exact q _ _ _ (Int.emod_nonneg _ (by omega)) (Int.emod_lt_of_pos _ hn0) ⟨Int.ediv_nonneg tp.d0 (by omega), tp.m0, tp.m1⟩
    · walk_at "go"
      refine x_tM hd ?_
      walk_at "go"
      refine x_tMput hd ?_
      walk_at "go"
      refine x_tM upd_same ?_
      have m0 := Int.emod_nonneg (M * 40014 + 1031) (show (2147483563 : Int) ≠ 0 by decide)
      have m1 := Int.emod_lt_of_pos (M * 40014 + 1031) (show (0 : Int) < 2147483563 by decide)
      generalize (M * 40014 + 1031) % 2147483563 = M1 at m0 m1 ⊢
      walk_at "go"
      have p0 := Int.emod_nonneg (M1 ^ (2 : Int).toNat) (show (2147483399 : Int) ≠ 0 by decide)
      have p1 := Int.emod_lt_of_pos (M1 ^ (2 : Int).toNat) (show (0 : Int) < 2147483399 by decide)
      generalize M1 ^ (2 : Int).toNat % 2147483399 = O1 at p0 p1 ⊢
      walk_at "go"
      exact q _ _ _ (Int.emod_nonneg _ (by omega)) (Int.emod_lt_of_pos _ hn0) ⟨tp.d0, m0, by omega⟩
end
end Tm
set_option maxRecDepth 100000
set_option maxHeartbeats 4000000
namespace Tm
open PySem PySem.Spec PyProof.Rows L2
section
variable {P : Program} {w : World} {K : PySem.W.Frag} {mg : Str → Option Value} {base : Heap}
local macro_rules | `(tactic| walk_at "in") => `(tactic| dsimp only [cxOf, L2.start, List.map, List.length, Nat.reduceAdd, Nat.reduceSub, List.replicate, List.cons_append, List.nil_append])
local macro_rules | `(tactic| walk_at "num") => `(tactic| first
  | exact Or.inl ⟨by omega, by omega⟩ | exact Or.inr ⟨by omega, by omega⟩ | exact ⟨by omega, by omega⟩ | exact ⟨by decide, by decide, by omega⟩ | (show (0 : Int) < _; omega))
local macro_rules | `(tactic| walk_at "go1") => `(tactic| with_reducible first
  | refine x_seq ?_ | refine x_asg ?_ | refine x_ret ?_ | refine x_retN ?_ | refine x_drop ?_ | refine x_next ?_ | refine x_ifS ?_ | refine x_par ?_
  | refine x_var (by with_unfolding_all exact rfl) ?_
  | refine x_C ?_ | refine x_op ?_ | refine x_rI0 ?_ | refine x_un ?_ | refine x_rU ?_ | refine x_cb ?_ | refine x_nil ?_ | refine x_cons ?_ | refine x_test ?_ | refine x_tB ?_ | refine x_bl2 ?_
  | refine x_eq (by with_unfolding_all exact rfl) ?_ | refine x_ne (by with_unfolding_all exact rfl) ?_
  | refine x_and ?_ | refine x_or ?_ | refine x_not ?_ | refine x_andV ?_ | refine x_orV ?_ | refine x_notV ?_ | refine x_if ?_ | refine x_chain ?_ | refine x_tup ?_ | refine x_lst ?_ | refine x_call ?_ | refine x_sl ?_ | refine x_noPart ?_ | refine x_part ?_
  | refine x_int ?_ | refine x_int1 ?_ | refine x_max2 ?_ | refine x_min2 ?_ | refine x_dgetT ?_ | refine x_dputT ?_ | refine x_dinT ?_ | refine x_dnotinT ?_ | refine x_disp ?_ | refine x_pairs ?_ | refine x_pairs0 ?_ | refine x_dnew ?_ | refine x_ckw ?_ | refine x_fldS ?_ | refine x_fld ?_ | refine x_make ?_ | refine x_makeK ?_ | refine x_meth ?_ | refine x_prop ?_ | refine x_gTup (sqT (by assumption)) (by with_unfolding_all exact rfl) ?_ | refine x_gCons ?_ | refine x_gNil ?_ | refine iteT ?_ | refine x_nbt ?_ | refine i_sn ?_ | refine i_ss ?_ | refine i_nsn ?_ | refine i_nss ?_ | refine x_nbf ?_ | refine iteF ?_
  | refine x_isi_str ?_ | refine x_isi_int ?_ | refine x_isi_intB ?_ | refine x_isi_tup (by assumption) ?_ | refine x_isi_dict (by assumption) ?_ | refine x_st2 ?_ | refine x_yes ?_ | refine x_yes2 ?_ | refine x_lenSet ?_)
local macro_rules | `(tactic| walk_at "go") => `(tactic| repeat (first
  | walk_at "go1"
  | ((with_reducible refine x_rI ?c ?_); (case c => walk_at "num"))
  | ((with_reducible refine x_gName ?_); (try dsimp only [L2.wipe, List.set_cons_zero, List.set_cons_succ]))))
local macro_rules | `(tactic| walk_at "gon") => `(tactic| repeat (first
  | walk_at "go1"
  | ((with_reducible refine x_lenT (sqT (by assumption)) ?_); (try simp only [List.length_cons, List.length_nil, List.length_map]))
  | ((with_reducible refine x_lenL (sqL (by assumption)) ?_); (try simp only [List.length_cons, List.length_nil, List.length_map]))
  | (with_reducible refine x_ixT (sqT (by assumption)) (by with_unfolding_all exact rfl) ?_)
  | (with_reducible refine x_ixL (sqL (by assumption)) (by with_unfolding_all exact rfl) ?_)
  | ((with_reducible refine x_rI ?c ?_); (case c => walk_at "num"))
  | ((with_reducible refine x_gName ?_); (try dsimp only [L2.wipe, List.set_cons_zero, List.set_cons_succ]))
  | with_reducible refine i_t rfl ?_ | with_reducible refine i_f (fun e => absurd (V.int.inj e) (by omega)) ?_ | with_reducible refine i_t (congrArg V.int (by omega)) ?_ | with_reducible refine i_f (by decide +kernel) ?_ | with_reducible refine i_nt rfl ?_ | with_reducible refine i_nt (congrArg V.int (by omega)) ?_ | with_reducible refine i_nf (fun e => absurd (V.int.inj e) (by omega)) ?_
  | with_reducible refine i_t (by omega) ?_ | with_reducible refine i_f (by omega) ?_ | with_reducible refine i_nt (by omega) ?_ | with_reducible refine i_nf (by omega) ?_ | dsimp only))

structure T18 (P : Program) (w : World) (K : PySem.W.Frag) (mg : Str → Option Value) (base : Heap) (C e : Addr) : Prop extends T16 P w K mg base C e where
  c_law_row_right : C8.Cal P w K mg base 9 "_law_row_right" spRowRight []
  c_law_split_right : C8.Cal P w K mg base 9 "_law_split_right" spSplitRight []
  c_law_tape : C8.Cal P w K mg base 1 "_law_tape" (spTape K) []
  c_law_pick : C8.Cal P w K mg base 1 "_law_pick" spPick []
def spLaw (K : PySem.W.Frag) : Sp := fun vs H Q _ => ∃ (a : Addr) (ns : List Int), vs = [.ref a] ∧ SqL K H a (ns.map V.int) ∧ (∀ z ∈ ns, Builtin.Int.intBits z ≤ 1048576) ∧ ∀ H', Q (.bl true) H'
theorem none_back {H H2 : Hp} {d : Addr} (s : Same H H2) (h : H2 d = none) : H d = none := by
  cases e : H d with
  | none => rfl
  | some o => rw [s _ _ e] at h; cases h
abbrev s_law : Stmt := top 40
theorem sc_law : FnScope ["script", "start", "tape", "later", "span"] ["script"] (C8.fnScope s_law) := C8.fnScope_by (by decide +kernel)
theorem ok_law {C e fa : Addr} {fd : FuncData} (F : C8.Fun K "law" "law" s_law fa fd) (T : T18 P w K mg base C e) : FnOk P w K mg base C8.CX0 10 fa fd ["script"] (spLaw K) := by
  refine C8.fn0 F sc_law (fun vs H Q E h => ?_) (fun cdv A outer sh H vs Q E hr h => ?_)
  · obtain ⟨a, ns, rfl, _⟩ := h
    rfl
  · obtain ⟨a, ns, rfl, hS, bits, q⟩ := h
    have nd := sc_law.nd
    have hu := hu_of hr
    refine ⟨_, (pss_cons (ps_for PassesOwn.never rfl (pi_range1 (by rfl) T.b_range (pa_cons (pe_callB (call_max2' rfl) (by rfl) T.b_max (by decide +kernel) (pa_cons pe_int (pa_cons (pe_callB (call_min2' rfl) (by rfl) T.b_min (by decide +kernel) (pa_cons pe_int (pa_cons (pe_callB call_len_seq' (by rfl) T.b_len (by decide +kernel) (pa_cons (pv 0) pa_nil)) pa_nil))) pa_nil))) pa_nil)) (pg_name (i := 1) nd rfl (Or.inl rfl))
  (pss_cons (ps_set (i := 2) nd rfl (Or.inl rfl) (C8.pe_c T.c_law_tape hr (by decide) (by rfl) (pa_cons (pv 0) (pa_cons (pv 1) pa_nil))))
  (pss_one (ps_if (PW.pt (pw_or (pt_not (pt_val (C8.pe_c T.c_law_row_right hr (by decide) (by rfl) (pa_cons (pe_op op_add pe_int (C8.pe_c T.c_law_pick hr (by decide) (by rfl) (pa_cons (pv 2) (pa_cons pe_int pa_nil)))) (pa_cons (C8.pe_c T.c_law_pick hr (by decide) (by rfl) (pa_cons (pv 2) (pa_cons pe_int pa_nil))) pa_nil))))) (pw_or1 (pt_not (pt_val (C8.pe_c T.c_law_split_right hr (by decide) (by rfl) (pa_cons (C8.pe_c T.c_law_pick hr (by decide) (by rfl) (pa_cons (pv 2) (pa_cons pe_int pa_nil))) (pa_cons (C8.pe_c T.c_law_pick hr (by decide) (by rfl) (pa_cons (pv 2) (pa_cons pe_int pa_nil))) pa_nil)))))))) (pss_one (ps_ret pe_bl)) pss_nil))))
  (pss_cons (ps_set (i := 3) nd rfl (Or.inl rfl) (C8.pe_mk T.mk_Sheet_1_ hr (by decide) (by rfl) (pa_cons (pe_lst (pa_cons (pe_tup (pa_cons pe_str (pa_cons (pe_tup (pa_cons pe_str pa_nil)) (pa_cons pe_int pa_nil)))) (pa_cons (pe_tup (pa_cons pe_str (pa_cons (pe_tup (pa_cons pe_str pa_nil)) (pa_cons pe_int pa_nil)))) (pa_cons (pe_tup (pa_cons pe_str (pa_cons (pe_tup (pa_cons pe_str (pa_cons (pe_tup (pa_cons pe_str (pa_cons pe_str pa_nil))) pa_nil))) (pa_cons pe_int pa_nil)))) (pa_cons (pe_tup (pa_cons pe_str (pa_cons (pe_tup (pa_cons pe_str (pa_cons pe_str pa_nil))) (pa_cons pe_int pa_nil)))) pa_nil))))) pa_nil)))
  (pss_cons (ps_set (i := 4) nd rfl (Or.inl rfl) (pe_disp (pps_cons pe_str pe_int (pps_cons pe_str pe_int (pps_cons pe_str pe_int (pps_cons pe_str pe_int pps_nil)))) (by rfl) (by rfl) (fun z => by cases z) (by decide)))
  (pss_one (ps_ret (pe_cmpR (op_eqD (hu64 hr)) (pe_lst (pa_cons (pe_dget hu (C8.pe_c T.c_begins hr (by decide) (by rfl) (pa_cons (pv 3) (pa_cons (pv 4) pa_nil))) pe_str (fun _ _ => rfl)) (pa_cons (C8.pe_c T.c_end hr (by decide) (by rfl) (pa_cons (pv 3) (pa_cons (pv 4) pa_nil))) (pa_cons (C8.pe_c T.c_end hr (by decide) (by rfl) (pa_cons (C8.pe_mt T.m_Sheet_quash hr (by decide) (pv 3) (pa_cons pe_str pa_nil)) (pa_cons (pv 4) pa_nil))) (pa_cons (C8.pe_c T.c_end hr (by decide) (by rfl) (pa_cons (C8.pe_mt T.m_Sheet_quash hr (by decide) (pv 3) (pa_cons pe_str pa_nil)) (pa_cons (pv 4) pa_nil))) pa_nil))))) (pe_lst (pa_cons pe_int (pa_cons pe_int (pa_cons pe_int (pa_cons pe_int pa_nil))))) (nomark _))))))), ?_⟩
    walk_at "in"
    walk_at "gon"
    have top3 : ∀ k : Int, 0 ≤ k → 0 ≤ (if (if k < 3 then k else 3) > 1 then (if k < 3 then k else 3) else 1) ∧ (if (if k < 3 then k else 3) > 1 then (if k < 3 then k else 3) else 1) ≤ 3 := fun k hk => by
      by_cases c1 : k < 3
      · rw [if_pos c1]
        by_cases c2 : k > 1
        · rw [if_pos c2]
          omega
        · rw [if_neg c2]
          omega
      · rw [if_neg c1, if_pos (by omega : (3 : Int) > 1)]
        omega
    have t3 := top3 ((ns.map V.int).length : Int) (by omega)
    refine ⟨_, rfl, a, _, rfl, .inl hS, 3, _, rfl, 1, _, rfl, _, rfl, by omega, by omega, for_it (walk_range (lo := 0) (n := _)) (fun i σ' H' => ∃ v1 v2 v3 v4, σ' = [some (.ref a), v1, v2, v3, v4] ∧ Same H H') ⟨_, _, _, _, rfl, fun _ _ e => e⟩ (fun _ _ _ _ _ => True.intro) ?_ ?_⟩
    · rintro i x σ' H2 H3 hi ⟨v1, v2, v3, v4, rfl, sH⟩ ⟨rfl, rfl⟩
      have hi3 : i < 3 := by
        omega
      walk_at "gon"
      refine ⟨a, ns, _, rfl, sqL_same sH hS, bits, by omega, by omega, fun d D M hd tp1 => ?_⟩
      have hd0 := none_back sH hd
      have s1 : Same H (upd H3 d (tapeO D M)) := same_newT sH hd
      have hd1 : upd H3 d (tapeO D M) d = some (tapeO D M) := upd_same
      generalize upd H3 d (tapeO D M) = H4 at s1 hd1 ⊢
      walk_at "gon"
      refine ⟨d, _, _, 8, rfl, hd1, tp1, by decide, by decide, fun r1 D1 M1 lo1 hi1 tp2 => ?_⟩
      have s2 := same_put (o := tapeO D1 M1) s1 hd0
      have hd2 : upd H4 d (tapeO D1 M1) d = some (tapeO D1 M1) := upd_same
      generalize upd H4 d (tapeO D1 M1) = H5 at s2 hd2 ⊢
      walk_at "gon"
      refine ⟨d, _, _, 30, rfl, hd2, tp2, by decide, by decide, fun r2 D2 M2 lo2 hi2 tp3 => ?_⟩
      have s3 := same_put (o := tapeO D2 M2) s2 hd0
      have hd3 : upd H5 d (tapeO D2 M2) d = some (tapeO D2 M2) := upd_same
      generalize upd H5 d (tapeO D2 M2) = H6 at s3 hd3 ⊢
      walk_at "gon"
      refine ⟨r1.toNat, r2.toNat, by rw [Int.toNat_of_nonneg lo1, Int.toNat_of_nonneg lo2, Int.add_comm r1]; rfl, by omega, by omega, fun H7 s7 => ?_⟩
      have s3 := s3.trans s7
      have hd3 := s7 _ _ hd3
      walk_at "gon"
      refine ⟨d, _, _, 20, rfl, hd3, tp3, by decide, by decide, fun r3 D3 M3 lo3 hi3 tp4 => ?_⟩
      have s4 := same_put (o := tapeO D3 M3) s3 hd0
      have hd4 : upd H7 d (tapeO D3 M3) d = some (tapeO D3 M3) := upd_same
      generalize upd H7 d (tapeO D3 M3) = H8 at s4 hd4 ⊢
      walk_at "gon"
      refine ⟨d, _, _, 20, rfl, hd4, tp4, by decide, by decide, fun r4 D4 M4 lo4 hi4 tp5 => ?_⟩
      have s5 := same_put (o := tapeO D4 M4) s4 hd0
      have hd5 : upd H8 d (tapeO D4 M4) d = some (tapeO D4 M4) := upd_same
      generalize upd H8 d (tapeO D4 M4) = H9 at s5 hd5 ⊢
      walk_at "gon"
      refine ⟨r3.toNat, r4.toNat, by rw [Int.toNat_of_nonneg lo3, Int.toNat_of_nonneg lo4]; rfl, by omega, by omega, fun H10 s10 => ?_⟩
      walk_at "gon"
      exact ⟨_, _, _, _, rfl, s5.trans s10⟩
    rintro σ' H0 ⟨v1, v2, v3, v4, rfl, sH⟩
    walk_at "gon"
    refine ⟨len_le (by simp), fun t1 ht1 => ?_⟩
    walk_at "gon"
    refine ⟨len_le (by simp), fun t2 ht2 => ?_⟩
    walk_at "gon"
    refine ⟨len_le (by simp), fun t3 ht3 => ?_⟩
    walk_at "gon"
    refine ⟨len_le (by simp), fun t4 ht4 => ?_⟩
    walk_at "gon"
    refine ⟨len_le (by simp), fun t5 ht5 => ?_⟩
    walk_at "gon"
    refine ⟨len_le (by simp), fun t6 ht6 => ?_⟩
    walk_at "gon"
    refine ⟨len_le (by simp), fun t7 ht7 => ?_⟩
    walk_at "gon"
    refine ⟨len_le (by simp), fun t8 ht8 => ?_⟩
    walk_at "gon"
    refine ⟨len_le (by simp), fun t9 ht9 => ?_⟩
    walk_at "gon"
    refine ⟨len_le (by simp), fun l hl => ?_⟩
    generalize e1 : upd H0 t1 (.tup [.str "now"]) = H1 at *
    generalize e2 : upd H1 t2 (.tup [.str "a", .ref t1, .int 12]) = H2 at *
    generalize e3 : upd H2 t3 (.tup [.str "now"]) = H3 at *
    generalize e4 : upd H3 t4 (.tup [.str "b", .ref t3, .int 12]) = H4 at *
    generalize e5 : upd H4 t5 (.tup [.str "a", .str "b"]) = H5 at *
    generalize e6 : upd H5 t6 (.tup [.str "behind", .ref t5]) = H6 at *
    generalize e7 : upd H6 t7 (.tup [.str "c", .ref t6, .int 12]) = H7 at *
    generalize e8 : upd H7 t8 (.tup [.str "beside", .str "c"]) = H8 at *
    generalize e9 : upd H8 t9 (.tup [.str "d", .ref t8, .int 12]) = H9 at *
    generalize e10 : upd H9 l (.lst [.ref t2, .ref t4, .ref t7, .ref t9]) = H10 at *
    have s1 : Same H0 H1 := by rw [← e1]; exact same_new ht1
    have s2 : Same H1 H2 := by rw [← e2]; exact same_new ht2
    have s3 : Same H2 H3 := by rw [← e3]; exact same_new ht3
    have s4 : Same H3 H4 := by rw [← e4]; exact same_new ht4
    have s5 : Same H4 H5 := by rw [← e5]; exact same_new ht5
    have s6 : Same H5 H6 := by rw [← e6]; exact same_new ht6
    have s7 : Same H6 H7 := by rw [← e7]; exact same_new ht7
    have s8 : Same H7 H8 := by rw [← e8]; exact same_new ht8
    have s9 : Same H8 H9 := by rw [← e9]; exact same_new ht9
    have s10 : Same H9 H10 := by rw [← e10]; exact same_new hl
    have g1 : H10 t1 = some (.tup [.str "now"]) := (s10 _ _ (s9 _ _ (s8 _ _ (s7 _ _ (s6 _ _ (s5 _ _ (s4 _ _ (s3 _ _ (s2 _ _ (by rw [← e1]; exact upd_same))))))))))
    have g2 : H10 t2 = some (.tup [.str "a", .ref t1, .int 12]) := (s10 _ _ (s9 _ _ (s8 _ _ (s7 _ _ (s6 _ _ (s5 _ _ (s4 _ _ (s3 _ _ (by rw [← e2]; exact upd_same)))))))))
    have g3 : H10 t3 = some (.tup [.str "now"]) := (s10 _ _ (s9 _ _ (s8 _ _ (s7 _ _ (s6 _ _ (s5 _ _ (s4 _ _ (by rw [← e3]; exact upd_same))))))))
    have g4 : H10 t4 = some (.tup [.str "b", .ref t3, .int 12]) := (s10 _ _ (s9 _ _ (s8 _ _ (s7 _ _ (s6 _ _ (s5 _ _ (by rw [← e4]; exact upd_same)))))))
    have g5 : H10 t5 = some (.tup [.str "a", .str "b"]) := (s10 _ _ (s9 _ _ (s8 _ _ (s7 _ _ (s6 _ _ (by rw [← e5]; exact upd_same))))))
    have g6 : H10 t6 = some (.tup [.str "behind", .ref t5]) := (s10 _ _ (s9 _ _ (s8 _ _ (s7 _ _ (by rw [← e6]; exact upd_same)))))
    have g7 : H10 t7 = some (.tup [.str "c", .ref t6, .int 12]) := (s10 _ _ (s9 _ _ (s8 _ _ (by rw [← e7]; exact upd_same))))
    have g8 : H10 t8 = some (.tup [.str "beside", .str "c"]) := (s10 _ _ (s9 _ _ (by rw [← e8]; exact upd_same)))
    have g9 : H10 t9 = some (.tup [.str "d", .ref t8, .int 12]) := (s10 _ _ (by rw [← e9]; exact upd_same))
    have g10 : H10 l = some (.lst [.ref t2, .ref t4, .ref t7, .ref t9]) := by rw [← e10]; exact upd_same
    have hR : RowsAt H10 [.ref t2, .ref t4, .ref t7, .ref t9] rows4 := .cons ⟨t2, _, rfl, g2, t1, rfl, g1⟩ (.cons ⟨t4, _, rfl, g4, t3, rfl, g3⟩ (.cons ⟨t7, _, rfl, g7, t6, t5, rfl, g6, g5⟩ (.cons ⟨t9, _, rfl, g9, t8, rfl, g8⟩ .nil)))
    clear e1 e2 e3 e4 e5 e6 e7 e8 e9 e10 s1 s2 s3 s4 s5 s6 s7 s8 s9 s10 g1 g2 g3 g4 g5 g6 g7 g8 g9
    have chk := check4
    simp only [Bool.and_eq_true, decide_eq_true_eq] at chk
    obtain ⟨⟨⟨⟨⟨k1, k2⟩, k3⟩, k4⟩, k5⟩, k6⟩ := chk
    walk_at "gon"
    refine mk_in (rows := rows4) ⟨g10, hR, by decide, named_of k1, T.em _, List.nodup_nil, fun _ h => nomatch h⟩ fun x H11 s11 sh11 => ?_
    have G11 : Good K C H11 x rows4 [] := ⟨sh11, by decide, named_of k1, List.nodup_nil, fun _ h => nomatch h⟩
    walk_at "gon"
    intro dd hdd
    walk_at "gon"
    refine ⟨upd_same, dayEnt days4, rfl, by simp [dayEnt, days4], ?_⟩
    rw [upd_upd, merge_days (ds := days4) four_ud]
    have s12 := same_new (o := .dK (dayEnt days4)) hdd
    have hd12 : upd H11 dd (.dK (dayEnt days4)) dd = some (.dK (dayEnt days4)) := upd_same
    generalize upd H11 dd (.dK (dayEnt days4)) = H12 at s12 hd12 ⊢
    have L := len_of hd12 k2
    have G := G11.mono s12
    clear s12 hdd hd12 G11 sh11
    walk_at "gon"
    refine ⟨x, dd, _, [], _, rfl, G, L, fun a13 H13 s13 ha13 => ?_⟩
    walk_at "gon"
    refine x_dget ha13 (dayEnt_val.trans (congrArg (Option.map V.int) k3)) ?_
    walk_at "gon"
    refine ⟨x, dd, _, [], _, rfl, G.mono s13, L.mono s13, fun H14 s14 => ?_⟩
    have sC := s13.trans s14
    walk_at "gon"
    obtain ⟨dx, lx, qx, vx, hx, _⟩ := (G.mono sC).here
    refine ⟨x, dx, _, rfl, hx, rfl, ?_⟩
    walk_at "gon"
    refine ⟨x, "b", _, [], rfl, G.mono sC, in4.2, by simp, fun z ys H15 s15 perm Gz => ?_⟩
    obtain rfl : ys = [("b" : Str)] := List.perm_singleton.mp perm
    have sD := sC.trans s15
    walk_at "gon"
    refine ⟨z, dd, _, _, _, rfl, Gz, L.mono sD, fun H16 s16 => ?_⟩
    have sE := sD.trans s16
    walk_at "gon"
    obtain ⟨dx2, lx2, qx2, vx2, hx2, _⟩ := (G.mono sE).here
    refine ⟨x, dx2, _, rfl, hx2, rfl, ?_⟩
    walk_at "gon"
    refine ⟨x, "c", _, [], rfl, G.mono sE, in4.1, by simp, fun z2 ys H17 s17 perm2 Gz2 => ?_⟩
    obtain rfl : ys = [("c" : Str)] := List.perm_singleton.mp perm2
    have sF := sE.trans s17
    walk_at "gon"
    refine ⟨z2, dd, _, _, _, rfl, Gz2, L.mono sF, fun H18 s18 => ?_⟩
    walk_at "gon"
    refine ⟨len_le (by simp), fun p1 hp1 => ?_⟩
    walk_at "gon"
    refine ⟨len_le (by simp), fun p2 hp2 => ?_⟩
    rw [show lastOf (fullOf rows4 [] days4) = 1584 from k4, show lastOf (fullOf rows4 [("b" : Str)] days4) = 1296 from k5, show lastOf (fullOf rows4 [("c" : Str)] days4) = 1584 from k6] at *
    refine ⟨.list [.int 1008, .int 1584, .int 1296, .int 1584], .list [.int 1008, .int 1584, .int 1296, .int 1584], .lst (sqL (same_new hp2 _ _ upd_same)) (.cons (.int _) (.cons (.int _) (.cons (.int _) (.cons (.int _) .nil)))), .lst (sqL upd_same) (.cons (.int _) (.cons (.int _) (.cons (.int _) (.cons (.int _) .nil)))), by decide +kernel, by decide +kernel, ?_⟩
    exact q _
end
end Tm
set_option maxRecDepth 100000
set_option maxHeartbeats 4000000
namespace Tm
open PySem PySem.Spec PyProof.Rows L2
section
variable {P : Program} {w : World} {K : PySem.W.Frag} {mg : Str → Option Value} {base : Heap}
local macro_rules | `(tactic| walk_at "in") => `(tactic| dsimp only [cxOf, L2.start, List.map, List.length, Nat.reduceAdd, Nat.reduceSub, List.replicate, List.cons_append, List.nil_append])
local macro_rules | `(tactic| walk_at "num") => `(tactic| first
  | exact Or.inl ⟨by omega, by omega⟩ | exact Or.inr ⟨by omega, by omega⟩ | exact ⟨by omega, by omega⟩ | exact ⟨by decide, by decide, by omega⟩ | (show (0 : Int) < _; omega))
local macro_rules | `(tactic| walk_at "go1") => `(tactic| with_reducible first
  | refine x_seq ?_ | refine x_asg ?_ | refine x_ret ?_ | refine x_retN ?_ | refine x_drop ?_ | refine x_next ?_ | refine x_ifS ?_ | refine x_par ?_
  | refine x_var (by with_unfolding_all exact rfl) ?_
  | refine x_C ?_ | refine x_op ?_ | refine x_rI0 ?_ | refine x_un ?_ | refine x_rU ?_ | refine x_cb ?_ | refine x_nil ?_ | refine x_cons ?_ | refine x_test ?_ | refine x_tB ?_ | refine x_bl2 ?_
  | refine x_eq (by with_unfolding_all exact rfl) ?_ | refine x_ne (by with_unfolding_all exact rfl) ?_
  | refine x_and ?_ | refine x_or ?_ | refine x_not ?_ | refine x_andV ?_ | refine x_orV ?_ | refine x_notV ?_ | refine x_if ?_ | refine x_chain ?_ | refine x_tup ?_ | refine x_lst ?_ | refine x_call ?_ | refine x_sl ?_ | refine x_noPart ?_ | refine x_part ?_
  | refine x_int ?_ | refine x_int1 ?_ | refine x_max2 ?_ | refine x_min2 ?_ | refine x_dgetT ?_ | refine x_dputT ?_ | refine x_dinT ?_ | refine x_dnotinT ?_ | refine x_disp ?_ | refine x_pairs ?_ | refine x_pairs0 ?_ | refine x_dnew ?_ | refine x_ckw ?_ | refine x_fldS ?_ | refine x_fld ?_ | refine x_make ?_ | refine x_makeK ?_ | refine x_meth ?_ | refine x_prop ?_ | refine x_gTup (sqT (by assumption)) (by with_unfolding_all exact rfl) ?_ | refine x_gCons ?_ | refine x_gNil ?_ | refine iteT ?_ | refine x_nbt ?_ | refine i_sn ?_ | refine i_ss ?_ | refine i_nsn ?_ | refine i_nss ?_ | refine x_nbf ?_ | refine iteF ?_
  | refine x_isi_str ?_ | refine x_isi_int ?_ | refine x_isi_intB ?_ | refine x_isi_tup (by assumption) ?_ | refine x_isi_dict (by assumption) ?_ | refine x_st2 ?_ | refine x_yes ?_ | refine x_yes2 ?_ | refine x_lenSet ?_)
local macro_rules | `(tactic| walk_at "go") => `(tactic| repeat (first
  | walk_at "go1"
  | ((with_reducible refine x_rI ?c ?_); (case c => walk_at "num"))
  | ((with_reducible refine x_gName ?_); (try dsimp only [L2.wipe, List.set_cons_zero, List.set_cons_succ]))))
local macro_rules | `(tactic| walk_at "gon") => `(tactic| repeat (first
  | walk_at "go1"
  | ((with_reducible refine x_lenT (sqT (by assumption)) ?_); (try simp only [List.length_cons, List.length_nil, List.length_map]))
  | ((with_reducible refine x_lenL (sqL (by assumption)) ?_); (try simp only [List.length_cons, List.length_nil, List.length_map]))
  | (with_reducible refine x_ixT (sqT (by assumption)) (by with_unfolding_all exact rfl) ?_)
  | (with_reducible refine x_ixL (sqL (by assumption)) (by with_unfolding_all exact rfl) ?_)
  | ((with_reducible refine x_rI ?c ?_); (case c => walk_at "num"))
  | ((with_reducible refine x_gName ?_); (try dsimp only [L2.wipe, List.set_cons_zero, List.set_cons_succ]))
  | with_reducible refine i_t rfl ?_ | with_reducible refine i_f (fun e => absurd (V.int.inj e) (by omega)) ?_ | with_reducible refine i_t (congrArg V.int (by omega)) ?_ | with_reducible refine i_f (by decide +kernel) ?_ | with_reducible refine i_nt rfl ?_ | with_reducible refine i_nt (congrArg V.int (by omega)) ?_ | with_reducible refine i_nf (fun e => absurd (V.int.inj e) (by omega)) ?_
  | with_reducible refine i_t (by omega) ?_ | with_reducible refine i_f (by omega) ?_ | with_reducible refine i_nt (by omega) ?_ | with_reducible refine i_nf (by omega) ?_ | dsimp only))

/-! ### what the top has written, and the law -/
theorem defx_of {K : PySem.W.Frag} {h : Heap} {mg : Str → Option Value} {x : Str} {st : Stmt} {f : Addr} {od an : Option Addr} {sl : Array (Option Value)} {oc kV dc pm cd ct : Value} (X : K.In h) (G : h.Ns mainGlobals mg)
    (a : PySem.W.nsIn K mainGlobals x = some (some (.ref f))) (l : K.lookup f = some ⟨oc, od, .func (PySem.W.fnOf x x (C8.fnArgs st) (C8.fnBody st) (C8.fnScope st) .none kV dc pm an cd ct), sl⟩) (c : PySem.W.codeIn K cd x = true) (k : PySem.W.keepIn K (.ref f) = true) : DefX K mg x st :=
  ⟨f, _, ⟨⟨oc, od, .none, kV, dc, pm, an, cd, ct, sl, rfl, l, c⟩, PySem.W.mg_of X G a, k⟩, rfl⟩
structure MthX (K : PySem.W.Frag) (C : Addr) (m qual : Str) (st : Stmt) : Prop where
  ex : ∃ g fd, Meth K C m g ∧ C8.Fun K m qual st g fd ∧ fd.defaults = .none
structure PrpX (K : PySem.W.Frag) (C : Addr) (m qual : Str) (st : Stmt) : Prop where
  ex : ∃ p g fd, PropOf K C m p g ∧ C8.Fun K m qual st g fd ∧ fd.defaults = .none
theorem mthx_of {K : PySem.W.Frag} {C : Addr} {m qual : Str} {st : Stmt} {f : Addr} {od an : Option Addr} {sl : Array (Option Value)} {oc kV dc pm cd ct : Value}
    (a : PySem.W.findIn K (.ref C) m = some (some (.ref f))) (i : PySem.W.isFn K (.ref f) = true) (l : K.lookup f = some ⟨oc, od, .func (PySem.W.fnOf m qual (C8.fnArgs st) (C8.fnBody st) (C8.fnScope st) .none kV dc pm an cd ct), sl⟩) (c : PySem.W.codeIn K cd qual = true) (k : PySem.W.keepIn K (.ref f) = true) : MthX K C m qual st :=
  ⟨f, _, ⟨a, i, k⟩, ⟨oc, od, .none, kV, dc, pm, an, cd, ct, sl, rfl, l, c⟩, rfl⟩
theorem prpx_of {K : PySem.W.Frag} {C : Addr} {m qual : Str} {st : Stmt} {p f : Addr} {od an : Option Addr} {sl : Array (Option Value)} {oc kV dc pm cd ct : Value} {rest : List Value}
    (a : PySem.W.findIn K (.ref C) m = some (some (.ref p))) (g : PySem.W.specialIn K (.ref p) "__get__" = some (some (.builtin "property.__get__"))) (t : PySem.W.takesIn K (.ref p) = some true) (r : PySem.W.recIn K p "property" = some (.ref f :: rest))
    (l : K.lookup f = some ⟨oc, od, .func (PySem.W.fnOf m qual (C8.fnArgs st) (C8.fnBody st) (C8.fnScope st) .none kV dc pm an cd ct), sl⟩) (c : PySem.W.codeIn K cd qual = true) : PrpX K C m qual st :=
  ⟨p, f, _, ⟨a, g, t, rest, r⟩, ⟨oc, od, .none, kV, dc, pm, an, cd, ct, sl, rfl, l, c⟩, rfl⟩
theorem ini_of {K : PySem.W.Frag} {C f D e : Addr} {od od2 an : Option Addr} {sl sl2 : Array (Option Value)} {oc dc pm cd ct : Value} {n : Nat}
    (mk : PySem.W.makesIn K C = true) (a : PySem.W.findIn K (.ref C) "__init__" = some (some (.ref f))) (i : PySem.W.isFn K (.ref f) = true) (kC : PySem.W.keepIn K (.ref C) = true)
    (l : K.lookup f = some ⟨oc, od, .func (PySem.W.fnOf "__init__" "Sheet.__init__" (C8.fnArgs s_Sheet___init__) (C8.fnBody s_Sheet___init__) (C8.fnScope s_Sheet___init__) .none (.ref D) dc pm an cd ct), sl⟩) (c : PySem.W.codeIn K cd "Sheet.__init__" = true) (k : PySem.W.keepIn K (.ref f) = true)
    (q : PySem.W.nsIn K D "quashed" = some (some (.ref e))) (le : K.lookup e = some ⟨.type "tuple", od2, .seq #[] n, sl2⟩) : ∃ f fd, Ini K C f fd e :=
  ⟨f, _, ⟨mk, a, i, kC⟩, ⟨⟨oc, od, .none, .ref D, dc, pm, an, cd, ct, sl, rfl, l, c, .inl ⟨rfl, rfl⟩, .inr ⟨D, rfl, fun p hp => by
    rw [List.mem_singleton] at hp
    rw [hp]
    exact ⟨.ref e, q, rfl⟩⟩⟩, k⟩, fun _ => .inr ⟨_, #[], n, le, rfl, rfl, Nat.zero_le _, .nil⟩⟩
theorem sht_of {K : PySem.W.Frag} {h : Heap} {mg : Str → Option Value} {C : Addr} (X : K.In h) (G : h.Ns mainGlobals mg) (aC : PySem.W.nsIn K mainGlobals "Sheet" = some (some (.ref C)))
    (pg : PySem.W.plainGet K C Str.empty = true) (hd : PySem.W.hasDictIn K C = true) (po : PySem.W.plainOver K C = true) (sa : PySem.W.findIn K (.ref C) "__setattr__" = some (some (.builtin "object.__setattr__")))
    (nL : PySem.W.findIn K (.ref C) "_lines" = some none) (nQ : PySem.W.findIn K (.ref C) "_quashed" = some none) : Sht K mg C := ⟨⟨pg, hd, po, sa⟩, PySem.W.mg_of X G aC, nL, nQ⟩
theorem bl_of {K : PySem.W.Frag} {h : Heap} {mg : Str → Option Value} (X : K.In h) (G : h.Ns mainGlobals mg) (z_len : PySem.W.nsIn K mainGlobals "len" = some none) (z_range : PySem.W.nsIn K mainGlobals "range" = some none) (z_int : PySem.W.nsIn K mainGlobals "int" = some none) (z_str : PySem.W.nsIn K mainGlobals "str" = some none) (z_bool : PySem.W.nsIn K mainGlobals "bool" = some none) (z_list : PySem.W.nsIn K mainGlobals "list" = some none) (z_tuple : PySem.W.nsIn K mainGlobals "tuple" = some none) (z_dict : PySem.W.nsIn K mainGlobals "dict" = some none) (z_set : PySem.W.nsIn K mainGlobals "set" = some none) (z_max : PySem.W.nsIn K mainGlobals "max" = some none) (z_min : PySem.W.nsIn K mainGlobals "min" = some none) (z_all : PySem.W.nsIn K mainGlobals "all" = some none) (z_sorted : PySem.W.nsIn K mainGlobals "sorted" = some none) (z_isinstance : PySem.W.nsIn K mainGlobals "isinstance" = some none) (z_enumerate : PySem.W.nsIn K mainGlobals "enumerate" = some none) (z_repr : PySem.W.nsIn K mainGlobals "repr" = some none) : Bl mg := ⟨PySem.W.mg_none_of X G z_len, PySem.W.mg_none_of X G z_range, PySem.W.mg_none_of X G z_int, PySem.W.mg_none_of X G z_str, PySem.W.mg_none_of X G z_bool, PySem.W.mg_none_of X G z_list, PySem.W.mg_none_of X G z_tuple, PySem.W.mg_none_of X G z_dict, PySem.W.mg_none_of X G z_set, PySem.W.mg_none_of X G z_max, PySem.W.mg_none_of X G z_min, PySem.W.mg_none_of X G z_all, PySem.W.mg_none_of X G z_sorted, PySem.W.mg_none_of X G z_isinstance, PySem.W.mg_none_of X G z_enumerate, PySem.W.mg_none_of X G z_repr⟩
theorem env_of {C e : Addr} (B : Bl mg) (Z : Sht K mg C) (I : ∃ f fd, Ini K C f fd e) (pl : PrpX K C "lines" "Sheet.lines" s_Sheet_lines) (pn : PrpX K C "names" "Sheet.names" s_Sheet_names) (pq : PrpX K C "quashed" "Sheet.quashed" s_Sheet_quashed) (mq : MthX K C "quash" "Sheet.quash" s_Sheet_quash)
    (d_is_int : DefX K mg "is_int" s_is_int) (d_is_name : DefX K mg "is_name" s_is_name) (d_is_share : DefX K mg "is_share" s_is_share) (d_is_lay : DefX K mg "is_lay" s_is_lay) (d_is_line : DefX K mg "is_line" s_is_line) (d_anchors_of : DefX K mg "anchors_of" s_anchors_of) (d_are_anchors : DefX K mg "_are_anchors" s_are_anchors) (d_check_rows : DefX K mg "_check_rows" s_check_rows) (d_check_names : DefX K mg "_check_names" s_check_names) (d_check_quashed : DefX K mg "_check_quashed" s_check_quashed) (d_is_lengths : DefX K mg "is_lengths" s_is_lengths) (d_begins : DefX K mg "begins" s_begins) (d_ends : DefX K mg "ends" s_ends) (d_end : DefX K mg "end" s_end) (d_least_end : DefX K mg "least_end" s_least_end) (d_full_lines : DefX K mg "_full_lines" s_full_lines) (d_served_days : DefX K mg "_served_days" s_served_days) (d_spans : DefX K mg "_spans" s_spans) (d_start : DefX K mg "_start" s_start) (d_last_stop : DefX K mg "_last_stop" s_last_stop) (d_law_tape : DefX K mg "_law_tape" s_law_tape) (d_law_pick : DefX K mg "_law_pick" s_law_pick) (d_law_unlike : DefX K mg "_law_unlike" s_law_unlike) (d_law_row_right : DefX K mg "_law_row_right" s_law_row_right) (d_law_split_right : DefX K mg "_law_split_right" s_law_split_right) : T18 P w K mg base C e := by
  have t1 : T1 P w K mg base := ⟨B, c_is_int d_is_int B, c_is_name d_is_name B⟩
  have t2 : T2 P w K mg base := ⟨t1, c_is_share d_is_share t1, c_are_anchors d_are_anchors t1⟩
  have t3 : T3 P w K mg base := ⟨t2, c_is_lay d_is_lay t2⟩
  have t4 : T4 P w K mg base := ⟨t3, c_is_line d_is_line t3, c_anchors_of d_anchors_of B⟩
  have t7 : T7 P w K mg base := ⟨t4, c_check_rows d_check_rows t4, c_check_names d_check_names t4, c_check_quashed d_check_quashed B⟩
  obtain ⟨f, fd, I⟩ := I
  obtain ⟨ds, dv, db⟩ := ini_binds I
  obtain ⟨p1, g1, fd1, a1, b1, c1⟩ := pl.ex
  obtain ⟨p2, g2, fd2, a2, b2, c2⟩ := pn.ex
  obtain ⟨p3, g3, fd3, a3, b3, c3⟩ := pq.ex
  obtain ⟨g4, fd4, a4, b4, c4⟩ := mq.ex
  have t9 : T9 P w K mg base C e := ⟨t7, Z, I.em, ⟨.ref C, Z.mgS, rfl⟩, ⟨f, fd, _, ds, I.mkr, ok_init I Z t7, Z.mgS, db, dv⟩, ⟨f, fd, _, _, I.mkr, ok_init I Z t7, Z.mgS, ini_kbinds I⟩,
    ⟨p1, g1, fd1, ["self"], Z.cl, a1, ok_lines b1 Z B, b1.binds c1 fun _ _ _ _ _ _ us hl => match us, hl with | [_], _ => rfl⟩,
    ⟨p2, g2, fd2, ["self"], Z.cl, a2, ok_names b2 Z B, b2.binds c2 fun _ _ _ _ _ _ us hl => match us, hl with | [_], _ => rfl⟩,
    ⟨p3, g3, fd3, ["self"], Z.cl, a3, ok_quashed b3 Z B, b3.binds c3 fun _ _ _ _ _ _ us hl => match us, hl with | [_], _ => rfl⟩⟩
  have t11 : T11 P w K mg base := ⟨t1, c_start d_start B⟩
  have t12 : T12 P w K mg base C e := ⟨t9, c_start d_start B, c_last_stop d_last_stop B, c_spans d_spans t11⟩
  have t13 : T13 P w K mg base C e := ⟨t12, c_is_lengths d_is_lengths t12, c_full_lines d_full_lines t12⟩
  have t14 : T14 P w K mg base C e := ⟨t13, c_served_days d_served_days t13⟩
  have t15 : T15 P w K mg base C e := ⟨t14, c_end d_end t14, c_least_end d_least_end t14, c_begins d_begins t14, c_ends d_ends t14,
    ⟨g4, fd4, ["self", "name"], [], Z.cl, a4, ok_quash b4 t9, b4.binds c4 fun _ _ _ _ _ _ us hl => match us, hl with | [_, _], _ => rfl, .nil⟩⟩
  have t16 : T16 P w K mg base C e := ⟨t15, c_law_unlike d_law_unlike B⟩
  exact ⟨t16, c_law_row_right d_law_row_right t16, c_law_split_right d_law_split_right t16, c_law_tape d_law_tape B, c_law_pick d_law_pick B⟩
theorem law_of {l : PySem.W.OpenLaw} {h : Heap} {fa f C e : Addr} {od an : Option Addr} {sl : Array (Option Value)} {oc kV dc pm cd ct : Value} (X : K.In h) (G : h.Ns mainGlobals mg) (hfa : mg "law" = some (.ref fa))
    (a : PySem.W.nsIn K mainGlobals "law" = some (some (.ref f))) (lk : K.lookup f = some ⟨oc, od, .func (PySem.W.fnOf "law" "law" (C8.fnArgs s_law) (C8.fnBody s_law) (C8.fnScope s_law) .none kV dc pm an cd ct), sl⟩) (c : PySem.W.codeIn K cd "law" = true)
    (B : Bl mg) (Z : Sht K mg C) (I : ∃ f fd, Ini K C f fd e) (pl : PrpX K C "lines" "Sheet.lines" s_Sheet_lines) (pn : PrpX K C "names" "Sheet.names" s_Sheet_names) (pq : PrpX K C "quashed" "Sheet.quashed" s_Sheet_quashed) (mq : MthX K C "quash" "Sheet.quash" s_Sheet_quash)
    (d_is_int : DefX K mg "is_int" s_is_int) (d_is_name : DefX K mg "is_name" s_is_name) (d_is_share : DefX K mg "is_share" s_is_share) (d_is_lay : DefX K mg "is_lay" s_is_lay) (d_is_line : DefX K mg "is_line" s_is_line) (d_anchors_of : DefX K mg "anchors_of" s_anchors_of) (d_are_anchors : DefX K mg "_are_anchors" s_are_anchors) (d_check_rows : DefX K mg "_check_rows" s_check_rows) (d_check_names : DefX K mg "_check_names" s_check_names) (d_check_quashed : DefX K mg "_check_quashed" s_check_quashed) (d_is_lengths : DefX K mg "is_lengths" s_is_lengths) (d_begins : DefX K mg "begins" s_begins) (d_ends : DefX K mg "ends" s_ends) (d_end : DefX K mg "end" s_end) (d_least_end : DefX K mg "least_end" s_least_end) (d_full_lines : DefX K mg "_full_lines" s_full_lines) (d_served_days : DefX K mg "_served_days" s_served_days) (d_spans : DefX K mg "_spans" s_spans) (d_start : DefX K mg "_start" s_start) (d_last_stop : DefX K mg "_last_stop" s_last_stop) (d_law_tape : DefX K mg "_law_tape" s_law_tape) (d_law_pick : DefX K mg "_law_pick" s_law_pick) (d_law_unlike : DefX K mg "_law_unlike" s_law_unlike) (d_law_row_right : DefX K mg "_law_row_right" s_law_row_right) (d_law_split_right : DefX K mg "_law_split_right" s_law_split_right) :
    ∃ fd : FuncData, (∀ (s : Shared) (u : Value), BindsTo s fd ⟨[u], []⟩ [("script", u)]) ∧ ∀ base : Heap, K.In base → base.Ns mainGlobals mg → FnOk l.prog w K mg base C8.CX0 10 fa fd ["script"] (spLaw K) := by
  have e := hfa.symm.trans (PySem.W.mg_of X G a)
  cases e
  exact ⟨PySem.W.fnOf "law" "law" (C8.fnArgs s_law) (C8.fnBody s_law) (C8.fnScope s_law) .none kV dc pm an cd ct, fun s v => .of_eq rfl, fun base _ _ => ok_law ⟨oc, od, .none, kV, dc, pm, an, cd, ct, sl, rfl, lk, c⟩ (env_of B Z I pl pn pq mq d_is_int d_is_name d_is_share d_is_lay d_is_line d_anchors_of d_are_anchors d_check_rows d_check_names d_check_quashed d_is_lengths d_begins d_ends d_end d_least_end d_full_lines d_served_days d_spans d_start d_last_stop d_law_tape d_law_pick d_law_unlike d_law_row_right d_law_split_right)⟩
theorem walkB {l : PySem.W.OpenLaw} {q : Program} {loose : List Str} {XP : (Str → Option Value) → Heap → Prop} {YP : World → Heap → Prop} {d : DefRec} {K : Params → PySem.W.Frag} {n : Nat} (hn : l.most = some n) (hz : n ≤ 10000) (hdf : d.params.defaults = [])
    (hY : ∀ (w : World) (h : Heap), YP w h → (K w.params).In h)
    (F : ∀ (w : World) (mg : Str → Option Value) (fa : Addr) (h : Heap), (K w.params).In h → h.Ns mainGlobals mg → mg d.name = some (.ref fa) →
      ∃ fd : FuncData, (∀ (s : Shared) (u : Value), BindsTo s fd ⟨[u], []⟩ [("script", u)]) ∧ ∀ base : Heap, (K w.params).In base → base.Ns mainGlobals mg → FnOk l.prog w (K w.params) mg base C8.CX0 10 fa fd ["script"] (spLaw (K w.params))) :
    PySem.W.WalkO q loose XP YP l.row.toRowW d [] (fun f vs => PySem.call f vs) :=
  L2.walk_ofB (n := n) (k := 10) (x := "script") (CX := fun _ => C8.CX0) (sp := fun w => spLaw (K w.params)) hn (len_le hz) hdf ⟨rfl, by decide, by decide⟩ hY F (fun _ _ a ns hl hb _ hS => ⟨a, ns, rfl, hS, hb, fun _ => rfl⟩) fun _ _ _ _ _ z => z
end
end Tm
set_option maxRecDepth 100000
set_option maxHeartbeats 4000000
namespace Tm
open PySem PySem.Spec PyProof.Rows L2
section
variable {P : Program} {w : World} {K : PySem.W.Frag} {mg : Str → Option Value} {base : Heap}
end
end Tm
open PySem PySem.W PyProof.Rows
set_option maxRecDepth 100000 in
set_option maxHeartbeats 0 in
theorem PySem.Challenge.cw_termlays_k09_days_by_hand_holds : PySem.Challenge.rw_termlays_k09_days_by_hand.Holds := by
  w_on; o_law; k_head; (case hw => w_witness2)
  k_fill
  refine Tm.walkB (l := PySem.Challenge.rw_termlays_k09_days_by_hand) rfl (by decide) rfl (fun w h Y => PySem.W.kIn_of Y) ?F
  case F =>
    intro w mg fa h KX G hmg
    refine' Tm.law_of KX G hmg ?a0 ?l0 ?c0 (Tm.bl_of KX G ?z_len ?z_range ?z_int ?z_str ?z_bool ?z_list ?z_tuple ?z_dict ?z_set ?z_max ?z_min ?z_all ?z_sorted ?z_isinstance ?z_enumerate ?z_repr) (Tm.sht_of KX G ?s_C ?s_pg ?s_hd ?s_po ?s_sa ?s_nL ?s_nQ) (Tm.ini_of ?i_mk ?i_a ?i_i ?i_kC ?i_l ?i_c ?i_k ?i_q ?i_le) (Tm.prpx_of ?p_lines_a ?p_lines_g ?p_lines_t ?p_lines_r ?p_lines_l ?p_lines_c) (Tm.prpx_of ?p_names_a ?p_names_g ?p_names_t ?p_names_r ?p_names_l ?p_names_c) (Tm.prpx_of ?p_quashed_a ?p_quashed_g ?p_quashed_t ?p_quashed_r ?p_quashed_l ?p_quashed_c) (Tm.mthx_of ?m_quash_a ?m_quash_i ?m_quash_l ?m_quash_c ?m_quash_k) (Tm.defx_of KX G ?d_is_int_a ?d_is_int_l ?d_is_int_c ?d_is_int_k) (Tm.defx_of KX G ?d_is_name_a ?d_is_name_l ?d_is_name_c ?d_is_name_k) (Tm.defx_of KX G ?d_is_share_a ?d_is_share_l ?d_is_share_c ?d_is_share_k) (Tm.defx_of KX G ?d_is_lay_a ?d_is_lay_l ?d_is_lay_c ?d_is_lay_k) (Tm.defx_of KX G ?d_is_line_a ?d_is_line_l ?d_is_line_c ?d_is_line_k) (Tm.defx_of KX G ?d_anchors_of_a ?d_anchors_of_l ?d_anchors_of_c ?d_anchors_of_k) (Tm.defx_of KX G ?d_are_anchors_a ?d_are_anchors_l ?d_are_anchors_c ?d_are_anchors_k) (Tm.defx_of KX G ?d_check_rows_a ?d_check_rows_l ?d_check_rows_c ?d_check_rows_k) (Tm.defx_of KX G ?d_check_names_a ?d_check_names_l ?d_check_names_c ?d_check_names_k) (Tm.defx_of KX G ?d_check_quashed_a ?d_check_quashed_l ?d_check_quashed_c ?d_check_quashed_k) (Tm.defx_of KX G ?d_is_lengths_a ?d_is_lengths_l ?d_is_lengths_c ?d_is_lengths_k) (Tm.defx_of KX G ?d_begins_a ?d_begins_l ?d_begins_c ?d_begins_k) (Tm.defx_of KX G ?d_ends_a ?d_ends_l ?d_ends_c ?d_ends_k) (Tm.defx_of KX G ?d_end_a ?d_end_l ?d_end_c ?d_end_k) (Tm.defx_of KX G ?d_least_end_a ?d_least_end_l ?d_least_end_c ?d_least_end_k) (Tm.defx_of KX G ?d_full_lines_a ?d_full_lines_l ?d_full_lines_c ?d_full_lines_k) (Tm.defx_of KX G ?d_served_days_a ?d_served_days_l ?d_served_days_c ?d_served_days_k) (Tm.defx_of KX G ?d_spans_a ?d_spans_l ?d_spans_c ?d_spans_k) (Tm.defx_of KX G ?d_start_a ?d_start_l ?d_start_c ?d_start_k) (Tm.defx_of KX G ?d_last_stop_a ?d_last_stop_l ?d_last_stop_c ?d_last_stop_k) (Tm.defx_of KX G ?d_law_tape_a ?d_law_tape_l ?d_law_tape_c ?d_law_tape_k) (Tm.defx_of KX G ?d_law_pick_a ?d_law_pick_l ?d_law_pick_c ?d_law_pick_k) (Tm.defx_of KX G ?d_law_unlike_a ?d_law_unlike_l ?d_law_unlike_c ?d_law_unlike_k) (Tm.defx_of KX G ?d_law_row_right_a ?d_law_row_right_l ?d_law_row_right_c ?d_law_row_right_k) (Tm.defx_of KX G ?d_law_split_right_a ?d_law_split_right_l ?d_law_split_right_c ?d_law_split_right_k)
    (case s_C => k_is)
    (case a0 => k_is)
    (case l0 => k_is)
    (case c0 => k_is)
    (case z_len => k_is)
    (case z_range => k_is)
    (case z_int => k_is)
    (case z_str => k_is)
    (case z_bool => k_is)
    (case z_list => k_is)
    (case z_tuple => k_is)
    (case z_dict => k_is)
    (case z_set => k_is)
    (case z_max => k_is)
    (case z_min => k_is)
    (case z_all => k_is)
    (case z_sorted => k_is)
    (case z_isinstance => k_is)
    (case z_enumerate => k_is)
    (case z_repr => k_is)
    (case s_pg => k_is)
    (case s_hd => k_is)
    (case s_po => k_is)
    (case s_sa => k_is)
    (case s_nL => k_is)
    (case s_nQ => k_is)
    (case i_mk => k_is)
    (case i_a => k_is)
    (case i_i => k_is)
    (case i_kC => k_is)
    (case i_l => k_is)
    (case i_c => k_is)
    (case i_k => k_is)
    (case i_q => k_is)
    (case i_le => k_is)
    (case p_lines_a => k_is)
    (case p_lines_g => k_is)
    (case p_lines_t => k_is)
    (case p_lines_r => k_is)
    (case p_lines_l => k_is)
    (case p_lines_c => k_is)
    (case p_names_a => k_is)
    (case p_names_g => k_is)
    (case p_names_t => k_is)
    (case p_names_r => k_is)
    (case p_names_l => k_is)
    (case p_names_c => k_is)
    (case p_quashed_a => k_is)
    (case p_quashed_g => k_is)
    (case p_quashed_t => k_is)
    (case p_quashed_r => k_is)
    (case p_quashed_l => k_is)
    (case p_quashed_c => k_is)
    (case m_quash_a => k_is)
    (case m_quash_i => k_is)
    (case m_quash_l => k_is)
    (case m_quash_c => k_is)
    (case m_quash_k => k_is)
    (case d_is_int_a => k_is)
    (case d_is_int_l => k_is)
    (case d_is_int_c => k_is)
    (case d_is_int_k => k_is)
    (case d_is_name_a => k_is)
    (case d_is_name_l => k_is)
    (case d_is_name_c => k_is)
    (case d_is_name_k => k_is)
    (case d_is_share_a => k_is)
    (case d_is_share_l => k_is)
    (case d_is_share_c => k_is)
    (case d_is_share_k => k_is)
    (case d_is_lay_a => k_is)
    (case d_is_lay_l => k_is)
    (case d_is_lay_c => k_is)
    (case d_is_lay_k => k_is)
    (case d_is_line_a => k_is)
    (case d_is_line_l => k_is)
    (case d_is_line_c => k_is)
    (case d_is_line_k => k_is)
    (case d_anchors_of_a => k_is)
    (case d_anchors_of_l => k_is)
    (case d_anchors_of_c => k_is)
    (case d_anchors_of_k => k_is)
    (case d_are_anchors_a => k_is)
    (case d_are_anchors_l => k_is)
    (case d_are_anchors_c => k_is)
    (case d_are_anchors_k => k_is)
    (case d_check_rows_a => k_is)
    (case d_check_rows_l => k_is)
    (case d_check_rows_c => k_is)
    (case d_check_rows_k => k_is)
    (case d_check_names_a => k_is)
    (case d_check_names_l => k_is)
    (case d_check_names_c => k_is)
    (case d_check_names_k => k_is)
    (case d_check_quashed_a => k_is)
    (case d_check_quashed_l => k_is)
    (case d_check_quashed_c => k_is)
    (case d_check_quashed_k => k_is)
    (case d_is_lengths_a => k_is)
    (case d_is_lengths_l => k_is)
    (case d_is_lengths_c => k_is)
    (case d_is_lengths_k => k_is)
    (case d_begins_a => k_is)
    (case d_begins_l => k_is)
    (case d_begins_c => k_is)
    (case d_begins_k => k_is)
    (case d_ends_a => k_is)
    (case d_ends_l => k_is)
    (case d_ends_c => k_is)
    (case d_ends_k => k_is)
    (case d_end_a => k_is)
    (case d_end_l => k_is)
    (case d_end_c => k_is)
    (case d_end_k => k_is)
    (case d_least_end_a => k_is)
    (case d_least_end_l => k_is)
    (case d_least_end_c => k_is)
    (case d_least_end_k => k_is)
    (case d_full_lines_a => k_is)
    (case d_full_lines_l => k_is)
    (case d_full_lines_c => k_is)
    (case d_full_lines_k => k_is)
    (case d_served_days_a => k_is)
    (case d_served_days_l => k_is)
    (case d_served_days_c => k_is)
    (case d_served_days_k => k_is)
    (case d_spans_a => k_is)
    (case d_spans_l => k_is)
    (case d_spans_c => k_is)
    (case d_spans_k => k_is)
    (case d_start_a => k_is)
    (case d_start_l => k_is)
    (case d_start_c => k_is)
    (case d_start_k => k_is)
    (case d_last_stop_a => k_is)
    (case d_last_stop_l => k_is)
    (case d_last_stop_c => k_is)
    (case d_last_stop_k => k_is)
    (case d_law_tape_a => k_is)
    (case d_law_tape_l => k_is)
    (case d_law_tape_c => k_is)
    (case d_law_tape_k => k_is)
    (case d_law_pick_a => k_is)
    (case d_law_pick_l => k_is)
    (case d_law_pick_c => k_is)
    (case d_law_pick_k => k_is)
    (case d_law_unlike_a => k_is)
    (case d_law_unlike_l => k_is)
    (case d_law_unlike_c => k_is)
    (case d_law_unlike_k => k_is)
    (case d_law_row_right_a => k_is)
    (case d_law_row_right_l => k_is)
    (case d_law_row_right_c => k_is)
    (case d_law_row_right_k => k_is)
    (case d_law_split_right_a => k_is)
    (case d_law_split_right_l => k_is)
    (case d_law_split_right_c => k_is)
    (case d_law_split_right_k => k_is)
