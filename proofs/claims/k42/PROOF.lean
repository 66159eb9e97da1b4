import PyProof.Rows.All
import Wide.All
import OpenK.AllK
import Wide.FinOn
import HandS.ForMost
import HandS.Codes
import HandS.Defaults
import HandS.MakeKwOnly
import HandS.Property
import HandS.IsInst
import HandS.DictComp
import HandS.Wide
import HandS.EndBits
import HandS.Deep
import HandS.TupAny
import HandS.Style
import HandS.More
import HandS.ListItems
import HandS.Walk
import HandS.TupSets
import KE.KeyNested
import HandS.SetFor
import HandS.Strs
import HandS.SortKw
import HandS.Sort
import KE.KDictList
import KE.KDictPairs
import HandS.Lambda
import HandS.OwnEq
import HandS.Gcd
import KE.SortData
import HandS.DictTup
import KE.KItemsList
import HandS.Text
import HandS.SetTxt0
import HandS.Conv
import HandS.Zip
import HandS.Zip0
import HandS.Star
import KE.KDictZip
import HandS.Dict
import KE.DataMinKey
import PyProof.ListOps
import PyProof.MinMaxWalk
import HandS.Iter
import HandS.EndTab
import HandS.HeadHook4
import KE.KNest
import HandS.TupMul
import HandS.SetBool
import PyProof.InstEq
import KE.KDictSum
import PyProof.NeKinds
import HandS.DeepEq
import PySem.Challenge.RW_termlays_k42_ranges_by_hand
set_option Elab.async false
set_option linter.all false
set_option maxRecDepth 100000
set_option maxHeartbeats 4000000
/-! Common ground of the proofs about termlays: names that are built-in, big ints, the tape of draws. -/
namespace Tm
open PySem PySem.Spec PyProof.Rows L2

/-- built-in names that the program leaves as they are -/
structure Bl (mg : Str → Option Value) : Prop where
  b_len : mg "len" = none
  b_range : mg "range" = none
  b_int : mg "int" = none
  b_str : mg "str" = none
  b_bool : mg "bool" = none
  b_list : mg "list" = none
  b_tuple : mg "tuple" = none
  b_dict : mg "dict" = none
  b_set : mg "set" = none
  b_max : mg "max" = none
  b_min : mg "min" = none
  b_all : mg "all" = none
  b_sorted : mg "sorted" = none
  b_isinstance : mg "isinstance" = none
  b_enumerate : mg "enumerate" = none
  b_repr : mg "repr" = none
  b_sum : mg "sum" = none
  b_any : mg "any" = none
  b_zip : mg "zip" = none
  b_abs : mg "abs" = none
  b_type : mg "type" = none

/-- a def of the module without defaults -/
structure DefX (K : PySem.W.Frag) (mg : Str → Option Value) (x : Str) (st : Stmt) : Prop where
  ex : ∃ (f : Addr) (fd : FuncData), C8.Def K mg x st f fd ∧ fd.defaults = .none

section
variable {P : Program} {w : World} {K : PySem.W.Frag} {mg : Str → Option Value} {base : Heap}
theorem cal_of {x : Str} {st : Stmt} {N ps : List Str} {k : Nat} {sp : Sp} (F : DefX K mg x st) (S : FnScope N ps (C8.fnScope st))
    (hb : ∀ (kV doc pm : Value) (an : Option Addr) (cdv ct : Value) (us : List Value), us.length = ps.length → bindArgs (PySem.W.fnOf x x (C8.fnArgs st) (C8.fnBody st) (C8.fnScope st) .none kV doc pm an cdv ct) ⟨us, []⟩ = pure (ps.zip us))
    (len : ∀ vs H Q E, sp vs H Q E → vs.length = ps.length)
    (go : ∀ (f : Addr) (cdv : Value) (A : Around) (outer : List Env) (s : Shared) (H : Hp) (vs : List V) (Q : VK) (E : XK), Room k (A.deeper (envOfC x (C8.fnScope st) s.heap.objs.size f cdv)) → sp vs H Q E →
      ∃ t, PSs (cxOf C8.CX0 P w K mg base N x (C8.fnScope st) f cdv A outer s H E).nox (C8.fnBody st) t ∧ t { nx := fun _ H' => Q .non H', rt := Q } (start N vs) H) : C8.Cal P w K mg base (k + 1) x sp [] := by
  obtain ⟨f, fd, D, df⟩ := F.ex
  exact C8.cal0 D (D.fn.binds df hb) .nil S len fun cdv A outer s H vs Q E hr h => go f cdv A outer s H vs Q E hr h
end

/-! ### calls of built-ins under names of their own -/
def rInt1 : List V → Hp → VK → Prop := fun xs H Q => ∃ i, xs = [.int i] ∧ Q (.int i) H
def rLenQ (K : PySem.W.Frag) : List V → Hp → VK → Prop := fun xs H Q => ∃ p ys, xs = [.ref p] ∧ (SqL K H p ys ∨ SqT K H p ys) ∧ Q (.int ys.length) H
def rLenT : List V → Hp → VK → Prop := fun xs H Q => ∃ z, xs = [.str z] ∧ z.length ≤ sizeLine ∧ Q (.int z.length) H
def rList (K : PySem.W.Frag) : List V → Hp → VK → Prop := fun xs H Q => ∃ p ys, xs = [.ref p] ∧ (SqL K H p ys ∨ SqT K H p ys) ∧ ∀ l, H l = none → Q (.ref l) (upd H l (.lst ys))
def rMax2 : List V → Hp → VK → Prop := fun xs H Q => ∃ i j, xs = [.int i, .int j] ∧ Q (.int (if j > i then j else i)) H
def rMin2 : List V → Hp → VK → Prop := fun xs H Q => ∃ i j, xs = [.int i, .int j] ∧ Q (.int (if j < i then j else i)) H
section
variable {X : Cx}
theorem call_int1' : CallR X (.type "int") rInt1 := by
  intro pins s σ H xs us Q I r h
  obtain ⟨i, rfl, q⟩ := h
  exact call_int1 pins s σ H _ us Q I r (.inl ⟨i, rfl, q⟩)
theorem call_len_seq' : CallR X (.builtin "len") (rLenQ X.K) := call_len_seq
theorem call_len_str' : CallR X (.builtin "len") rLenT := call_len_str
theorem call_list_of' : CallR X (.type "list") (rList X.K) := call_list_of
theorem call_max2' (hc : X.calm = true) : CallR X (.builtin "max") rMax2 := call_max2 hc
theorem call_min2' (hc : X.calm = true) : CallR X (.builtin "min") rMin2 := call_min2 hc
end

/-! ### big ints -/
def CMulB (i j : Int) : Prop := i.natAbs.log2 + j.natAbs.log2 < 100000000
theorem CMulB.ok {i j : Int} (h : CMulB i j) : IntMulOk i j := by
  have lo : ∀ x : Int, Builtin.Int.intBits x ≤ x.natAbs.log2 + 1 := by
    intro x
    unfold Builtin.Int.intBits
    split <;> omega
  have hi := lo i
  have hj := lo j
  have hs : i.natAbs.log2 + j.natAbs.log2 < 100000000 := h
  have bl : bitsLine = 134217728 := by decide
  unfold IntMulOk
  intro z
  rw [Bool.and_eq_true] at z
  have zz := z.2
  unfold Builtin.Int.intTooBig at zz
  have z4 := of_decide_eq_true zz
  rw [bl] at z4
  omega
def CPowB (i j : Int) : Prop := 0 ≤ j ∧ (Builtin.Int.intBits i : Int) * j ≤ 2 ^ 27
section
variable {X : Cx}
theorem op_mulB : OpR X (binaryOp .Mult) (rI CMulB fun i j => .int (i * j)) := opI fun _ _ _ _ _ _ _ c q => mul_int q c.ok
theorem op_powB : OpR X (binaryOp .Pow) (rI CPowB fun i j => .int (i ^ j.toNat)) := opI fun _ _ _ _ _ _ _ c q => pow_int c.1 c.2 q
end
theorem bits_le_log (x : Int) : Builtin.Int.intBits x ≤ x.natAbs.log2 + 1 := by
  unfold Builtin.Int.intBits
  split <;> omega
theorem log_lt_of {x : Nat} {b : Nat} (h : x < 2 ^ b) (hb : 0 < b) : x.log2 < b := by
  by_cases e : x = 0
  · subst e
    rw [Nat.log2_zero]
    exact hb
  · exact (Nat.log2_lt e).mpr h
theorem lt_of_bits {x : Int} {b : Nat} (h : Builtin.Int.intBits x ≤ b) : x.natAbs < 2 ^ b := by
  unfold Builtin.Int.intBits at h
  by_cases e : x.natAbs = 0
  · rw [e]
    exact Nat.two_pow_pos b
  · have e2 : x ≠ 0 := fun z => e (by rw [z]; rfl)
    have h2 : x.natAbs.log2 < b := by
      split at h
      · rename_i q
        first
          | exact absurd (by simpa using q) e2
          | omega
      · omega
    exact (Nat.log2_lt e).mp h2

/-! ### the tape of draws -/
def tapeO (D M : Int) : HO := .dK [(Sum.inr "digits", .int D), (Sum.inr "mixed", .int M)]
structure Tp (D M : Int) : Prop where
  d0 : 0 ≤ D
  m0 : 0 ≤ M
  m1 : M < 4294967296
def spTape (K : PySem.W.Frag) : Sp := fun vs H Q _ => ∃ (a : Addr) (ns : List Int) (k : Int), vs = [.ref a, .int k] ∧ SqL K H a (ns.map V.int) ∧ (∀ z ∈ ns, Builtin.Int.intBits z ≤ 1048576) ∧ 0 ≤ k ∧ k < 100 ∧
  ∀ (d : Addr) (D M : Int), H d = none → Tp D M → Q (.ref d) (upd H d (tapeO D M))
def spPick : Sp := fun vs H Q _ => ∃ (d : Addr) (D M n : Int), vs = [.ref d, .int n] ∧ H d = some (tapeO D M) ∧ Tp D M ∧ 0 < n ∧ n < 1000000000 ∧
  ∀ (r D' M' : Int), 0 ≤ r → r < n → Tp D' M' → Q (.int r) (upd H d (tapeO D' M'))
end Tm
set_option maxRecDepth 100000
set_option maxHeartbeats 4000000
/-! Readings, one step a rule. -/
namespace Tm
open PySem PySem.Spec PyProof.Rows L2
section
variable {K : PySem.W.Frag} {σ : L2.St} {H H1 : Hp} {Q : VK} {D : Ends} {t u : TS} {ta tb tc te : TE} {g : TG} {x y v : V} {i j : Int} {n m : Nat} {QT : Bool → Hp → Prop}
theorem x_seq (h : t { D with nx := u D } σ H) : tSeq t u D σ H := h
theorem x_asg (h : te σ H fun x H1 => g x σ H1 D.nx) : tAsg te g D σ H := h
theorem x_gName {QG : L2.St → Hp → Prop} (h : QG (σ.set n (some v)) H) : gName n v σ H QG := h
theorem x_ret (h : te σ H D.rt) : tRet te D σ H := h
theorem x_retN (h : D.rt .non H) : tRetN D σ H := h
theorem x_drop (h : te σ H fun _ H1 => D.nx σ H1) : tDrop te D σ H := h
theorem x_next (h : D.nx σ H) : tNext D σ H := h
theorem x_ifS {c : TT} (h : c σ H fun b H1 => if b = true then t D σ H1 else u D σ H1) : tIfS c t u D σ H := h
theorem x_par {ta : TA} (h : ta σ H fun vs H1 => ∃ v w, vs = [v, w] ∧ D.nx ((σ.set n (some v)).set m (some w)) H1) : tPar n m ta D σ H := h
theorem x_var (e : σ[n]? = some (some v)) (h : Q v H) : tVar n σ H Q := ⟨v, e, h⟩
theorem x_C (h : Q v H) : tC v σ H Q := h
theorem x_op {r : R2} (h : ta σ H fun x H1 => tb σ H1 fun y H2 => r x y H2 Q) : tOp r ta tb σ H Q := h
theorem x_rI0 {f : Int → Int → V} (h : Q (f i j) H) : rI0 f (.int i) (.int j) H Q := ⟨i, j, rfl, rfl, h⟩
theorem x_rI {C : Int → Int → Prop} {f : Int → Int → V} (c : C i j) (h : Q (f i j) H) : rI C f (.int i) (.int j) H Q := ⟨i, j, rfl, rfl, c, h⟩
theorem x_un {r : V → Hp → VK → Prop} (h : ta σ H fun x H1 => r x H1 Q) : tUn r ta σ H Q := h
theorem x_rU {f : Int → V} (h : Q (f i) H) : rU f (.int i) H Q := ⟨i, rfl, h⟩
theorem x_cb {r : List V → Hp → VK → Prop} {t : TA} (h : t σ H fun vs H1 => r vs H1 Q) : tCB r t σ H Q := h
theorem x_nil {QA : List V → Hp → Prop} (h : QA [] H) : tNil σ H QA := h
theorem x_cons {QA : List V → Hp → Prop} {tr : TA} (h : ta σ H fun x H1 => tr σ H1 fun xs H2 => QA (x :: xs) H2) : tCons ta tr σ H QA := h
theorem x_test (h : te σ H fun x H' => ∃ k, x = .bl k ∧ QT k H') : tTest te σ H QT := h
theorem x_tB (h : te σ H fun x H' => ∃ k, x = .bl k ∧ QT k H') : tB te σ H QT := h

theorem x_bl2 {b : Bool} {F : Bool → Prop} (h : F b) : ∃ k, V.bl b = .bl k ∧ F k := ⟨b, rfl, h⟩
theorem x_and {t u : TT} (h : t σ H fun c H1 => if c = true then u σ H1 QT else QT false H1) : tAnd t u σ H QT := h
theorem x_or {t u : TT} (h : t σ H fun c H1 => if c = true then QT true H1 else u σ H1 QT) : tOr t u σ H QT := h
theorem x_not {t : TT} (h : t σ H fun c H1 => QT (!c) H1) : tNot t σ H QT := h
theorem x_andV (h : ta σ H fun x H1 => ∃ c, x = .bl c ∧ if c = true then tb σ H1 Q else Q (.bl false) H1) : tAndV ta tb σ H Q := h
theorem x_orV (h : ta σ H fun x H1 => ∃ c, x = .bl c ∧ if c = true then Q (.bl true) H1 else tb σ H1 Q) : tOrV ta tb σ H Q := h
theorem x_notV (h : ta σ H fun x H1 => ∃ c, x = .bl c ∧ Q (.bl (!c)) H1) : tNotV ta σ H Q := h
theorem x_if {t : TT} (h : t σ H fun c H1 => if c = true then ta σ H1 Q else tb σ H1 Q) : tIf t ta tb σ H Q := h
theorem x_chain {r r' : R2} (h : ta σ H fun x H1 => tb σ H1 fun y H2 => r x y H2 fun z H3 => ∃ k, z = .bl k ∧ (if k = true then tc σ H3 fun w' H4 => r' y w' H4 Q else Q (.bl false) H3)) : tChain r r' ta tb tc σ H Q := h
theorem x_eq (e : scal x y = true) (h : Q (.bl (decide (x = y))) H) : rEq x y H Q := ⟨e, h⟩
theorem x_ne (e : scal x y = true) (h : Q (.bl (!decide (x = y))) H) : rNe x y H Q := ⟨e, h⟩
theorem x_tup {t : TA} (h : t σ H fun xs H1 => xs.length ≤ sizeLine ∧ ∀ p, H1 p = none → Q (.ref p) (upd H1 p (.tup xs))) : tTup t σ H Q := h
theorem x_lst {t : TA} (h : t σ H fun xs H1 => xs.length ≤ sizeLine ∧ ∀ p, H1 p = none → Q (.ref p) (upd H1 p (.lst xs))) : tLst t σ H Q := h
theorem x_call {sp : Sp} {dvs : List V} {E : XK} {t : TA} (h : t σ H fun vs H1 => sp (vs ++ dvs) H1 Q E) : tCall sp dvs E t σ H Q := h
theorem x_sl {r : V → Option Int → Option Int → Hp → VK → Prop} {tl th : TO} (h : te σ H fun x H1 => tl σ H1 fun l H2 => th σ H2 fun u H3 => r x l u H3 Q) : tSl r te tl th σ H Q := h
theorem x_noPart {QO : Option Int → Hp → Prop} (h : QO none H) : tNoPart σ H QO := h
theorem x_part {QO : Option Int → Hp → Prop} (h : te σ H fun x H1 => ∃ i, x = .int i ∧ QO (some i) H1) : tPart te σ H QO := h
theorem x_int {QI : Int → Prop} (h : QI i) : ∃ k, V.int i = .int k ∧ QI k := ⟨i, rfl, h⟩
theorem x_int1 (h : Q (.int i) H) : rInt1 [.int i] H Q := ⟨i, rfl, h⟩
theorem x_dget {d : Addr} {kvs : List (Key × V)} {k : Str} {F : V → Prop} (hd : H d = some (.dK kvs)) (hv : valV kvs (Sum.inr k) = some v) (h : F v) : ∃ a w, V.ref d = .ref a ∧ DGet H a (.str k) (some w) ∧ F w :=
  ⟨d, v, rfl, by rw [← hv]; exact DGet.k (k := Sum.inr k) hd, h⟩
theorem x_dgetT (h : ta σ H fun x H1 => tb σ H1 fun y H2 => ∃ a v, x = .ref a ∧ DGet H2 a y (some v) ∧ Q v H2) : tDGet ta tb σ H Q := h
theorem x_dputT (h : tc σ H fun v H1 => ta σ H1 fun x H2 => tb σ H2 fun y H3 => ∃ a H4, x = .ref a ∧ DPut H3 a y v H4 ∧ D.nx σ H4) : sDPut ta tb tc D σ H := h
theorem x_dput {d : Addr} {kvs : List (Key × V)} {k : Str} {F : Hp → Prop} (hd : H d = some (.dK kvs)) (hl : kvs.length < sizeLine) (h : F (upd H d (.dK (putK kvs (Sum.inr k) v)))) : ∃ a H4, V.ref d = .ref a ∧ DPut H a (.str k) v H4 ∧ F H4 :=
  ⟨d, _, rfl, DPut.k (k := Sum.inr k) hd hl, h⟩
theorem x_dinT (h : ta σ H fun y H1 => tb σ H1 fun x H2 => ∃ a o, x = .ref a ∧ DGet H2 a y o ∧ Q (.bl o.isSome) H2) : tDIn ta tb σ H Q := h
theorem x_dnotinT (h : ta σ H fun y H1 => tb σ H1 fun x H2 => ∃ a o, x = .ref a ∧ DGet H2 a y o ∧ Q (.bl (!o.isSome)) H2) : tDNotIn ta tb σ H Q := h
theorem x_din {d : Addr} {kvs : List (Key × V)} {k : Str} {F : Bool → Prop} (hd : H d = some (.dK kvs)) (h : F (valV kvs (Sum.inr k)).isSome) : ∃ a o, V.ref d = .ref a ∧ DGet H a (.str k) o ∧ F o.isSome := ⟨d, _, rfl, DGet.k (k := Sum.inr k) hd, h⟩
theorem x_dnotin {d : Addr} {kvs : List (Key × V)} {k : Str} {F : Bool → Prop} (hd : H d = some (.dK kvs)) (h : F (valV kvs (Sum.inr k)).isSome) : ∃ a o, V.ref d = .ref a ∧ DGet H a (.str k) o ∧ F o.isSome := ⟨d, _, rfl, DGet.k (k := Sum.inr k) hd, h⟩
theorem x_ixL {p : Addr} {xs : List V} (hs : SqL K H p xs) (e : atI xs i = some v) (h : Q v H) : rIxL K (.ref p) (.int i) H Q := ⟨p, xs, i, v, rfl, rfl, hs, e, h⟩
theorem x_ixT {p : Addr} {xs : List V} (hs : SqT K H p xs) (e : atI xs i = some v) (h : Q v H) : rIxT K (.ref p) (.int i) H Q := ⟨p, xs, i, v, rfl, rfl, hs, e, h⟩
theorem x_lenL {p : Addr} {xs : List V} (hs : SqL K H p xs) (h : Q (.int xs.length) H) : rLenQ K [.ref p] H Q := ⟨p, xs, rfl, .inl hs, h⟩
theorem x_lenT {p : Addr} {xs : List V} (hs : SqT K H p xs) (h : Q (.int xs.length) H) : rLenQ K [.ref p] H Q := ⟨p, xs, rfl, .inr hs, h⟩
theorem x_lenS {z : Str} (hz : z.length ≤ sizeLine) (h : Q (.int z.length) H) : rLenT [.str z] H Q := ⟨z, rfl, hz, h⟩
theorem x_listL {p : Addr} {xs : List V} (hs : SqL K H p xs) (h : ∀ l, H l = none → Q (.ref l) (upd H l (.lst xs))) : rList K [.ref p] H Q := ⟨p, xs, rfl, .inl hs, h⟩
theorem x_listT {p : Addr} {xs : List V} (hs : SqT K H p xs) (h : ∀ l, H l = none → Q (.ref l) (upd H l (.lst xs))) : rList K [.ref p] H Q := ⟨p, xs, rfl, .inr hs, h⟩
theorem x_max2 (h : Q (.int (if j > i then j else i)) H) : rMax2 [.int i, .int j] H Q := ⟨i, j, rfl, h⟩
theorem x_min2 (h : Q (.int (if j < i then j else i)) H) : rMin2 [.int i, .int j] H Q := ⟨i, j, rfl, h⟩
theorem x_disp {trs : List (TE × TE)} (h : ∀ p, H p = none → tPairs trs σ (upd H p (.dK [])) fun ps H2 => H2 p = some (.dK []) ∧ ∃ kvs : List (Key × V), ps = kvs.map (fun kv => (kV kv.1, kv.2)) ∧ kvs.length ≤ 15 ∧ Q (.ref p) (upd H2 p (.dK (mergeK [] kvs)))) : tDisp trs σ H Q := h
theorem x_pairs {QP : List (V × V) → Hp → Prop} {r : List (TE × TE)} (h : ta σ H fun x H1 => tb σ H1 fun y H2 => tPairs r σ H2 fun ps H3 => QP ((x, y) :: ps) H3) : tPairs ((ta, tb) :: r) σ H QP := h
theorem x_pairs0 {QP : List (V × V) → Hp → Prop} (h : QP [] H) : tPairs [] σ H QP := h
theorem x_dnew (h : ∀ p, H p = none → Q (.ref p) (upd H p (.dK []))) : tDNewK σ H Q := h
/-- tests that are known -/
theorem i_t {c A B : Prop} [Decidable c] (hc : c) (h : A) : if decide c = true then A else B := by
  rw [decide_eq_true hc, if_pos rfl]
  exact h
theorem i_f {c A B : Prop} [Decidable c] (hc : ¬ c) (h : B) : if decide c = true then A else B := by
  rw [decide_eq_false hc, if_neg Bool.false_ne_true]
  exact h
theorem i_2 {c A B : Prop} [Decidable c] (h1 : c → A) (h2 : ¬ c → B) : if decide c = true then A else B := by
  by_cases hc : c
  · exact i_t hc (h1 hc)
  · exact i_f hc (h2 hc)
theorem i_nt {c A B : Prop} [Decidable c] (hc : c) (h : B) : if (!decide c) = true then A else B := by
  rw [decide_eq_true hc]
  exact iteF h
theorem i_nf {c A B : Prop} [Decidable c] (hc : ¬ c) (h : A) : if (!decide c) = true then A else B := by
  rw [decide_eq_false hc]
  exact iteT h
theorem i_bt {b : Bool} {A B : Prop} (hb : b = true) (h : A) : if b = true then A else B := by
  rw [hb, if_pos rfl]
  exact h
theorem i_bf {b : Bool} {A B : Prop} (hb : b = false) (h : B) : if b = true then A else B := by
  rw [hb, if_neg Bool.false_ne_true]
  exact h
end
/-! the tape's two entries -/
theorem kd_ne : ¬ ((Sum.inr ("digits" : Str) : Key) = Sum.inr ("mixed" : Str)) := by decide +kernel
theorem km_ne : ¬ ((Sum.inr ("mixed" : Str) : Key) = Sum.inr ("digits" : Str)) := by decide +kernel
section
variable {H : Hp} {d : Addr} {D M : Int} {F : Hp → Prop} {F1 : V → Prop}
theorem x_tD (hd : H d = some (tapeO D M)) (h : F1 (.int D)) : ∃ a w, V.ref d = .ref a ∧ DGet H a (.str "digits") (some w) ∧ F1 w := x_dget hd (valV_pos rfl) h
theorem x_tM (hd : H d = some (tapeO D M)) (h : F1 (.int M)) : ∃ a w, V.ref d = .ref a ∧ DGet H a (.str "mixed") (some w) ∧ F1 w := x_dget hd ((valV_neg kd_ne).trans (valV_pos rfl)) h
theorem putD (E : Int) : putK [((Sum.inr ("digits" : Str) : Key), V.int D), (Sum.inr ("mixed" : Str), V.int M)] (Sum.inr ("digits" : Str)) (V.int E) = [(Sum.inr ("digits" : Str), V.int E), (Sum.inr ("mixed" : Str), V.int M)] := by
  simp only [putK, List.any_cons, decide_true, Bool.true_or, if_true, List.map_cons, List.map_nil, if_neg km_ne]
theorem putM (E : Int) : putK [((Sum.inr ("digits" : Str) : Key), V.int D), (Sum.inr ("mixed" : Str), V.int M)] (Sum.inr ("mixed" : Str)) (V.int E) = [(Sum.inr ("digits" : Str), V.int D), (Sum.inr ("mixed" : Str), V.int E)] := by
  simp only [putK, List.any_cons, decide_true, Bool.true_or, Bool.or_true, if_true, List.map_cons, List.map_nil, if_neg kd_ne]
theorem mergeT : mergeK [] [((Sum.inr ("digits" : Str) : Key), V.int D), (Sum.inr ("mixed" : Str), V.int M)] = [(Sum.inr ("digits" : Str), V.int D), (Sum.inr ("mixed" : Str), V.int M)] := by
  simp only [mergeK, List.foldl_cons, List.foldl_nil, putK, List.any_cons, List.any_nil, Bool.false_eq_true, if_false, List.nil_append, Bool.or_false, decide_eq_true_eq, if_neg kd_ne, List.cons_append]
theorem x_tDput {E : Int} (hd : H d = some (tapeO D M)) (h : F (upd H d (tapeO E M))) : ∃ a H4, V.ref d = .ref a ∧ DPut H a (.str "digits") (.int E) H4 ∧ F H4 := x_dput hd (by show 2 < sizeLine; decide) (by rw [putD]; exact h)
theorem x_tMput {E : Int} (hd : H d = some (tapeO D M)) (h : F (upd H d (tapeO D E))) : ∃ a H4, V.ref d = .ref a ∧ DPut H a (.str "mixed") (.int E) H4 ∧ F H4 := x_dput hd (by show 2 < sizeLine; decide) (by rw [putM]; exact h)
end
end Tm
set_option maxRecDepth 100000
set_option maxHeartbeats 4000000
/-! The data of sheets, how they lie in the heap, and walks that make lists and dicts item by item. -/
namespace Tm
open PySem PySem.Spec PyProof.Rows L2

/-! ### heaps -/
/-- all tuples stand -/
def SameT (H H' : Hp) : Prop := ∀ b xs, H b = some (.tup xs) → H' b = some (.tup xs)
theorem SameT.refl (H : Hp) : SameT H H := fun _ _ h => h
theorem SameT.trans {H H1 H2 : Hp} (a : SameT H H1) (b : SameT H1 H2) : SameT H H2 := fun c xs h => b c xs (a c xs h)
theorem sameT {H H' : Hp} (s : Same H H') : SameT H H' := fun b xs h => s b _ h
theorem same_new {H : Hp} {p : Addr} {o : HO} (h : H p = none) : Same H (upd H p o) := fun b u e => by rw [upd_ne (ne_of_none e h)]; exact e
theorem same_newT {H H1 : Hp} {p : Addr} {o : HO} (s : Same H H1) (h : H1 p = none) : Same H (upd H1 p o) := s.trans (same_new h)
/-- an object that is new to H may be changed at will -/
theorem same_put {H H1 : Hp} {p : Addr} {o : HO} (s : Same H H1) (h : H p = none) : Same H (upd H1 p o) := fun b u e => by rw [upd_ne (ne_of_none e h)]; exact s b u e
theorem SameT.put {H : Hp} {p : Addr} {o u : HO} (h : H p = some u) (hu : ∀ xs, u ≠ .tup xs) : SameT H (upd H p o) := fun b xs e => by
  have n : b ≠ p := fun z => by
    rw [z, h] at e
    exact hu xs (Option.some.inj e)
  rw [upd_ne n]
  exact e
theorem SameT.new {H : Hp} {p : Addr} {o : HO} (h : H p = none) : SameT H (upd H p o) := sameT (same_new h)

/-! ### pairs of lists -/
theorem pr_at {α β : Type} {F : α → β → Prop} : ∀ {l : List α} {m : List β} {i : Nat} {x : α}, Paired F l m → l[i]? = some x → ∃ y, m[i]? = some y ∧ F x y
  | _, _, i, x, .nil, h => by simp at h
  | _, _, 0, x, .cons f _, h => by
    simp at h
    subst h
    exact ⟨_, rfl, f⟩
  | _, _, i + 1, x, .cons _ t, h => by
    obtain ⟨y, h1, h2⟩ := pr_at (i := i) t (by simpa using h)
    exact ⟨y, by simpa using h1, h2⟩
theorem pr_len {α β : Type} {F : α → β → Prop} : ∀ {l : List α} {m : List β}, Paired F l m → l.length = m.length
  | _, _, .nil => rfl
  | _, _, .cons _ t => congrArg Nat.succ (pr_len t)
theorem pr_mono {α β : Type} {F G : α → β → Prop} (h : ∀ a b, F a b → G a b) : ∀ {l : List α} {m : List β}, Paired F l m → Paired G l m
  | _, _, .nil => .nil
  | _, _, .cons f t => .cons (h _ _ f) (pr_mono h t)
theorem take_snoc {α : Type} {l : List α} {i : Nat} {x : α} (h : l[i]? = some x) : l.take (i + 1) = l.take i ++ [x] := by
  rw [List.take_add_one, h]
  rfl

/-! ### a list that is made item by item -/
section
variable {α : Type} {J : It} {n : Nat} {G : Hp → Prop} {Y : Nat → Hp → V → Hp → Prop}
theorem lc_rel (w : Walk J n G Y) {g : TG} {tt : TT} {te : TE} {vs : List Nat} {σ : L2.St} {H1 : Hp} {D : Addr} {Qd : Hp → Prop} (data : List α) (hn : data.length = n) (hz : n ≤ sizeLine) (R : Hp → V → α → Prop)
    (mono : ∀ H H' v d, SameT H H' → R H v d → R H' v d) (hD : H1 D = none) (hG : ∀ H, Same H1 H → G H)
    (hs : ∀ i d x H H', data[i]? = some d → Same H1 H → Y i H x H' → Same H H' ∧ ∀ (k : V → Hp → Prop) (z : Hp → Prop), (∀ y H4, Same H' H4 → R H4 y d → k y H4) →
      g x (wipe σ vs) H' fun σ2 H2 => wipe σ2 vs = wipe σ vs ∧ tt σ2 H2 fun b H3 => if b = true then te σ2 H3 k else z H3)
    (hd : ∀ H acc, Same H1 H → H D = some (.lst acc) → Paired (R H) acc data → Qd H) :
    ∃ W : Nat → Nat → Hp → Prop, (∃ m, W 0 m (upd H1 D (.lst []))) ∧ ∀ i m H, W i m H →
      (J.stop i H ∧ Qd H) ∨ (J.go i H ∧ ∃ Nx : Hp → Prop, (∀ H', Nx H' → ∃ m', m' < m ∧ W (i + 1) m' H') ∧ ∀ x H', J.yld i H x H' → g x (wipe σ vs) H' fun σ2 H2 => wipe σ2 vs = wipe σ vs ∧ tt σ2 H2 fun b H3 =>
        if b = true then te σ2 H3 fun y H4 => ∃ acc, H4 D = some (.lst acc) ∧ acc.length < sizeLine ∧ Nx (upd H4 D (.lst (acc ++ [y]))) else Nx H3) := by
  refine lc_it w (fun i H => Same H1 H ∧ ∃ acc, H D = some (.lst acc) ∧ Paired (R H) acc (data.take i)) ⟨same_new hD, [], upd_same, by rw [List.take_zero]; exact .nil⟩ (fun i H _ p => hG H p.1) ?_ ?_
  · rintro i x H H' hi ⟨s, acc, ha, pr⟩ y
    obtain ⟨d, hd'⟩ : ∃ d, data[i]? = some d := ⟨data[i]'(by omega), List.getElem?_eq_getElem (by omega)⟩
    obtain ⟨s1, go⟩ := hs i d x H H' hd' s y
    refine go _ _ fun v H4 s4 r => ?_
    have st : Same H H4 := s1.trans s4
    have la : acc.length = i := by rw [pr_len pr, List.length_take]; omega
    refine ⟨acc, st _ _ ha, by omega, same_put (s.trans st) hD, acc ++ [v], upd_same, ?_⟩
    have tt : SameT H4 (upd H4 D (.lst (acc ++ [v]))) := SameT.put (st _ _ ha) (fun _ z => by cases z)
    rw [take_snoc hd']
    exact Paired.snoc (pr_mono (fun a b q => mono _ _ _ _ ((sameT st).trans tt) q) pr) (mono _ _ _ _ tt r)
  · rintro H ⟨s, acc, ha, pr⟩
    rw [← hn, List.take_length] at pr
    exact hd H acc s ha pr
/-- a dict comprehension by a walk -/
theorem dc_it (w : Walk J n G Y) {g : TG} {tt : TT} {tk tv : TE} {vs : List Nat} {σ : L2.St} {H1 : Hp} {D : Addr} {Qd : Hp → Prop} (Pv : Nat → Hp → Prop) (h0 : Pv 0 (upd H1 D (.dK []))) (hG : ∀ i H, i ≤ n → Pv i H → G H)
    (hs : ∀ i x H H', i < n → Pv i H → Y i H x H' → g x (wipe σ vs) H' fun σ2 H2 => wipe σ2 vs = wipe σ vs ∧ tt σ2 H2 fun b H3 =>
      if b = true then tk σ2 H3 fun y H4 => tv σ2 H4 fun z H5 => ∃ kvs k, y = kV k ∧ H5 D = some (.dK kvs) ∧ kvs.length < sizeLine ∧ Pv (i + 1) (upd H5 D (.dK (putK kvs k z))) else Pv (i + 1) H3) (hd : ∀ H, Pv n H → Qd H) :
    ∃ W : Nat → Nat → Hp → Prop, (∃ m, W 0 m (upd H1 D (.dK []))) ∧ ∀ i m H, W i m H →
      (J.stop i H ∧ Qd H) ∨ (J.go i H ∧ ∃ Nx : Hp → Prop, (∀ H', Nx H' → ∃ m', m' < m ∧ W (i + 1) m' H') ∧ ∀ x H', J.yld i H x H' → g x (wipe σ vs) H' fun σ2 H2 => wipe σ2 vs = wipe σ vs ∧ tt σ2 H2 fun b H3 =>
        if b = true then tk σ2 H3 fun y H4 => tv σ2 H4 fun z H5 => ∃ kvs k, y = kV k ∧ H5 D = some (.dK kvs) ∧ kvs.length < sizeLine ∧ Nx (upd H5 D (.dK (putK kvs k z))) else Nx H3) := by
  refine ⟨fun i m H => m = n - i ∧ i ≤ n ∧ Pv i H, ⟨n, by simp, Nat.zero_le _, h0⟩, fun i m H hw => ?_⟩
  obtain ⟨em, hi, p⟩ := hw
  have gg := hG i H hi p
  rcases Nat.lt_or_ge i n with hlt | hge
  · refine .inr ⟨w.goes i H hlt gg, Pv (i + 1), fun H' p' => ⟨n - (i + 1), by omega, rfl, hlt, p'⟩, fun x H' y => ?_⟩
    exact hs i x H H' hlt p (w.yields i H x H' hlt gg y)
  · have e : i = n := by omega
    rw [e] at p ⊢
    exact .inl ⟨w.stops H gg, hd H p⟩
/-- new keys, one a turn: the dict's entries in this order -/
theorem dc_rel (w : Walk J n G Y) {g : TG} {tt : TT} {tk tv : TE} {vs : List Nat} {σ : L2.St} {H1 : Hp} {D : Addr} {Qd : Hp → Prop} (data : List α) (key : α → Key) (hn : data.length = n) (hz : n ≤ sizeLine) (hu : (data.map key).Nodup) (R : Hp → V → α → Prop)
    (mono : ∀ H H' v d, SameT H H' → R H v d → R H' v d) (hD : H1 D = none) (hG : ∀ H, Same H1 H → G H)
    (hs : ∀ i d x H H', data[i]? = some d → Same H1 H → Y i H x H' → Same H H' ∧ ∀ (k : V → V → Hp → Prop) (z : Hp → Prop), (∀ y H4, Same H' H4 → R H4 y d → k (kV (key d)) y H4) →
      g x (wipe σ vs) H' fun σ2 H2 => wipe σ2 vs = wipe σ vs ∧ tt σ2 H2 fun b H3 => if b = true then tk σ2 H3 fun a H4 => tv σ2 H4 fun y H5 => k a y H5 else z H3)
    (hd : ∀ H acc, Same H1 H → H D = some (.dK acc) → Paired (fun kv d => kv.1 = key d ∧ R H kv.2 d) acc data → Qd H) :
    ∃ W : Nat → Nat → Hp → Prop, (∃ m, W 0 m (upd H1 D (.dK []))) ∧ ∀ i m H, W i m H →
      (J.stop i H ∧ Qd H) ∨ (J.go i H ∧ ∃ Nx : Hp → Prop, (∀ H', Nx H' → ∃ m', m' < m ∧ W (i + 1) m' H') ∧ ∀ x H', J.yld i H x H' → g x (wipe σ vs) H' fun σ2 H2 => wipe σ2 vs = wipe σ vs ∧ tt σ2 H2 fun b H3 =>
        if b = true then tk σ2 H3 fun y H4 => tv σ2 H4 fun z H5 => ∃ kvs k, y = kV k ∧ H5 D = some (.dK kvs) ∧ kvs.length < sizeLine ∧ Nx (upd H5 D (.dK (putK kvs k z))) else Nx H3) := by
  refine dc_it w (fun i H => Same H1 H ∧ ∃ acc, H D = some (.dK acc) ∧ Paired (fun kv d => kv.1 = key d ∧ R H kv.2 d) acc (data.take i)) ⟨same_new hD, [], upd_same, by rw [List.take_zero]; exact .nil⟩ (fun i H _ p => hG H p.1) ?_ ?_
  · rintro i x H H' hi ⟨s, acc, ha, pr⟩ y
    obtain ⟨d, hd'⟩ : ∃ d, data[i]? = some d := ⟨data[i]'(by omega), List.getElem?_eq_getElem (by omega)⟩
    obtain ⟨s1, go⟩ := hs i d x H H' hd' s y
    refine go (fun a v H4 => ∃ kvs k, a = kV k ∧ H4 D = some (.dK kvs) ∧ kvs.length < sizeLine ∧ _) _ fun v H4 s4 r => ?_
    have st : Same H H4 := s1.trans s4
    have la : acc.length = i := by rw [pr_len pr, List.length_take]; omega
    have fresh : valV acc (key d) = none := by
      cases e : valV acc (key d) with
      | none => rfl
      | some v0 =>
        exfalso
        have hk := valV_in e
        rw [List.mem_map] at hk
        obtain ⟨kv, hkv, ek⟩ := hk
        obtain ⟨j, hj⟩ := List.getElem?_of_mem hkv
        obtain ⟨d2, hd2, e2, _⟩ := pr_at pr hj
        rw [List.getElem?_take] at hd2
        split at hd2
        · rename_i hji
          have a1 : (data.map key)[j]? = some (key d2) := by rw [List.getElem?_map, hd2]; rfl
          have a2 : (data.map key)[i]? = some (key d) := by rw [List.getElem?_map, hd']; rfl
          rw [← e2, ek] at a1
          have := nd_ix hu a1 a2
          omega
        · cases hd2
    refine ⟨acc, key d, rfl, st _ _ ha, by omega, same_put (s.trans st) hD, putK acc (key d) v, upd_same, ?_⟩
    have tt : SameT H4 (upd H4 D (.dK (putK acc (key d) v))) := SameT.put (st _ _ ha) (fun _ z => by cases z)
    rw [take_snoc hd']
    rw [putK_new _ fresh] at tt ⊢
    exact Paired.snoc (pr_mono (fun a b q => ⟨q.1, mono _ _ _ _ ((sameT st).trans tt) q.2⟩) pr) ⟨rfl, mono _ _ _ _ tt r⟩
  · rintro H ⟨s, acc, ha, pr⟩
    rw [← hn, List.take_length] at pr
    exact hd H acc s ha pr
end
/-- what such a dict says of a key -/
theorem dk_val {α : Type} {key : α → Key} {R : V → α → Prop} : ∀ {acc : List (Key × V)} {data : List α} {d : α}, Paired (fun kv d => kv.1 = key d ∧ R kv.2 d) acc data → d ∈ data → (data.map key).Nodup → ∃ v, valV acc (key d) = some v ∧ R v d
  | _, _, d, .nil, h, _ => by cases h
  | kv :: acc, e :: data, d, .cons f t, h, hu => by
    rw [List.map_cons, List.nodup_cons] at hu
    by_cases c : kv.1 = key d
    · refine ⟨kv.2, valV_pos c, ?_⟩
      rcases List.mem_cons.mp h with q | q
      · rw [q]
        exact f.2
      · exfalso
        rw [f.1] at c
        exact hu.1 (by rw [c]; exact List.mem_map_of_mem q)
    · have hm : d ∈ data := by
        rcases List.mem_cons.mp h with q | q
        · rw [q] at c
          exact absurd f.1 c
        · exact q
      obtain ⟨v, h1, h2⟩ := dk_val (d := d) t hm hu.2
      exact ⟨v, (valV_neg c).trans h1, h2⟩
end Tm
set_option maxRecDepth 100000
set_option maxHeartbeats 4000000
/-! Sets of tuples that hold numbers, texts and such tuples. -/
namespace Tr
open PySem PySem.Spec PyProof.Rows
section
variable {P : Program} {w : World} {A : Around} {E : Value → Shared → Prop} {s : Shared}
/-- v is of no class of the program's own -/
def NoCls (P : Program) (w : World) (n : Nat) (s : Shared) (v : Value) : Prop := ∀ (A : Around) (E : Value → Shared → Prop) (Q : Bool → Shared → Prop), Q false s → wpAny (model P w) A (ofAClassStatement n v) Q E s
/-- whether v has a hash by value is known -/
def HashSaid (P : Program) (w : World) (n : Nat) (s : Shared) (v : Value) : Prop := ∃ b : Bool, ∀ (A : Around) (E : Value → Shared → Prop) (Q : Bool → Shared → Prop), Q b s → wpAny (model P w) A (hashByValue n v) Q E s
theorem noCls_tuple {n : Nat} {a : Addr} {o : Obj} {us : Array Value} {m : Nat} (e1 : s.heap.get? a = some o) (e2 : o.cls = .type "tuple") (e3 : o.data = .seq us m) (all : ∀ v ∈ us.toList, NoCls P w n s v) : NoCls P w (n + 1) s (.ref a) := by
  intro A E Q q
  have yes : (("tuple" : String) == "tuple") = true := by decide
  unfold ofAClassStatement
  refine wpAny_bind (wpAny_typeOf (T := "tuple") ⟨o, e1, e2⟩ ?_)
  simp only [yes, if_true]
  refine wpAny_bind (wpAny_pure ?_)
  simp only [Bool.not_true, Bool.false_eq_true, if_false]
  refine wpAny_bind (wpAny_seqItems e1 e3 ?_)
  refine wpAny_bind ?_
  show wpAny _ _ (forIn us _ _) _ _ s
  rw [← Array.forIn_toList]
  refine wpAny_forIn_list _ (fun left st s1 => st.1 = none ∧ s1 = s ∧ ∀ v ∈ left, NoCls P w n s v) _ (fun v left st s1 z => ?_) (fun st s1 z => ?_) _ _ ⟨rfl, rfl, all⟩
  · obtain ⟨z1, rfl, z3⟩ := z
    refine wpAny_bind (z3 v List.mem_cons_self _ _ _ ?_)
    simp only [Bool.false_eq_true, if_false]
    exact wpAny_pure ⟨rfl, rfl, fun u hu => z3 u (.tail _ hu)⟩
  · obtain ⟨st1, st2⟩ := st
    obtain ⟨z1, rfl, _⟩ := z
    cases z1
    exact wpAny_pure q
mutual
theorem noCls_key : ∀ (k : NestedKey) (v : Value) (n : Nat) (s : Shared), NestedIs s.heap k v → k.depth ≤ n → NoCls P w n s v
  | .none, _, n, s, x, _ => by cases x; cases n <;> exact fun _ _ _ q => wpAny_pure q
  | .num i, _, n, s, x, _ => by cases x <;> cases n <;> exact fun _ _ _ q => wpAny_pure q
  | .text z, _, n, s, x, _ => by cases x; cases n <;> exact fun _ _ _ q => wpAny_pure q
  | .tup ks, _, n, s, x, hn => by
    cases x with
    | tup e1 e2 e3 e4 =>
      simp only [NestedKey.depth] at hn
      cases n with
      | zero => omega
      | succ n => exact noCls_tuple e1 e2 e3 (noCls_keys ks _ n s e4 (by omega))
theorem noCls_keys : ∀ (ks : List NestedKey) (us : List Value) (n : Nat) (s : Shared), NestedAll s.heap ks us → NestedKey.depthAll ks ≤ n → ∀ v ∈ us, NoCls P w n s v
  | [], _, n, s, x, _, v, hv => by cases x; cases hv
  | k :: ks, _, n, s, x, hn, v, hv => by
    cases x with
    | cons x1 x2 =>
      simp only [NestedKey.depthAll] at hn
      cases hv with
      | head => exact noCls_key k _ n s x1 (by omega)
      | tail _ hv => exact noCls_keys ks _ n s x2 (by omega) v hv
end
theorem hashSaid_tuple {n : Nat} {a : Addr} {o : Obj} {us : Array Value} {m : Nat} (e1 : s.heap.get? a = some o) (e2 : o.cls = .type "tuple") (e3 : o.data = .seq us m) (all : ∀ v ∈ us.toList, HashSaid P w n s v) : HashSaid P w (n + 1) s (.ref a) := by
  -- which answer it is: that of the items, one behind the other
  have which : ∀ l : List Value, (∀ v ∈ l, HashSaid P w n s v) → ∃ b : Bool, ∀ (A : Around) (E : Value → Shared → Prop) (Q : Option Bool × PUnit → Shared → Prop), (∀ st, (match st.1 with | some c => c = b | none => b = true) → Q st s) →
      wpAny (model P w) A (forIn l ((none, ⟨⟩) : Option Bool × PUnit) fun x _ => do if !(← hashByValue n x) then pure (ForInStep.done (some false, ⟨⟩)) else pure (ForInStep.yield (none, ⟨⟩))) Q E s := by
    intro l
    induction l with
    | nil => exact fun _ => ⟨true, fun A E Q q => by rw [List.forIn_nil]; exact wpAny_pure (q _ rfl)⟩
    | cons v l ih =>
      intro h
      obtain ⟨b1, k1⟩ := h v List.mem_cons_self
      obtain ⟨b2, k2⟩ := ih fun u hu => h u (.tail _ hu)
      cases b1 with
      | false =>
        refine ⟨false, fun A E Q q => ?_⟩
        rw [List.forIn_cons]
        refine wpAny_bind (wpAny_bind (k1 _ _ _ ?_))
        simp only [Bool.not_false, if_true]
        exact wpAny_pure (wpAny_pure (q _ rfl))
      | true =>
        refine ⟨b2, fun A E Q q => ?_⟩
        rw [List.forIn_cons]
        refine wpAny_bind (wpAny_bind (k1 _ _ _ ?_))
        simp only [Bool.not_true, Bool.false_eq_true, if_false]
        exact wpAny_pure (k2 _ _ _ q)
  obtain ⟨b, kb⟩ := which _ all
  refine ⟨b, fun A E Q q => ?_⟩
  unfold hashByValue
  refine wpAny_bind (wpAny_specialOf ⟨o, e1, e2⟩ PySem.F.slot_tuple_hash.lookup ?_)
  refine wpAny_bind (wpAny_seqItems e1 e3 ?_)
  refine wpAny_bind ?_
  show wpAny _ _ (forIn us _ _) _ _ s
  rw [← Array.forIn_toList]
  refine kb _ _ _ fun st hst => ?_
  obtain ⟨st1, st2⟩ := st
  cases st1 with
  | none =>
    cases (show b = true from hst)
    exact wpAny_pure q
  | some c =>
    cases (show c = b from hst)
    exact wpAny_pure q
mutual
theorem hashSaid_key : ∀ (k : NestedKey) (v : Value) (n : Nat) (s : Shared), NestedIs s.heap k v → k.depth ≤ n → HashSaid P w n s v
  | .none, _, n, s, x, _ => by cases x; cases n <;> exact ⟨true, fun _ _ _ q => wpAny_pure q⟩
  | .num i, _, n, s, x, _ => by cases x <;> cases n <;> exact ⟨true, fun _ _ _ q => wpAny_pure q⟩
  | .text z, _, n, s, x, _ => by cases x; cases n <;> exact ⟨false, fun _ _ _ q => wpAny_pure q⟩
  | .tup ks, _, n, s, x, hn => by
    cases x with
    | tup e1 e2 e3 e4 =>
      simp only [NestedKey.depth] at hn
      cases n with
      | zero => omega
      | succ n => exact hashSaid_tuple e1 e2 e3 (hashSaid_keys ks _ n s e4 (by omega))
theorem hashSaid_keys : ∀ (ks : List NestedKey) (us : List Value) (n : Nat) (s : Shared), NestedAll s.heap ks us → NestedKey.depthAll ks ≤ n → ∀ v ∈ us, HashSaid P w n s v
  | [], _, n, s, x, _, v, hv => by cases x; cases hv
  | k :: ks, _, n, s, x, hn, v, hv => by
    cases x with
    | cons x1 x2 =>
      simp only [NestedKey.depthAll] at hn
      cases hv with
      | head => exact hashSaid_key k _ n s x1 (by omega)
      | tail _ hv => exact hashSaid_keys ks _ n s x2 (by omega) v hv
end
/-! ### the set -/
/-- an item of the set: where it lies, and which key it is -/
abbrev KA := Addr × NestedKey
abbrev kh (w : World) (p : KA) : Int := p.2.hash w
def Keyed (h : Heap) (p : KA) : Prop := NestedIs h p.2 (.ref p.1) ∧ p.2.depth ≤ 8
theorem Keyed.keep {h h' : Heap} {p : KA} (k : ∀ b o us n, h.get? b = some o → o.data = .seq us n → h'.get? b = some o) (x : Keyed h p) : Keyed h' p := ⟨x.1.at k, x.2⟩
abbrev rowK (w : World) (p : KA) : Int × Value := (p.2.hash w, .ref p.1)
abbrev arrK (w : World) (L : List KA) : Array (Int × Value) := (L.map (rowK w)).toArray
structure SetIs (w : World) (h : Heap) (a : Addr) (L : List KA) (t : SetTable) : Prop where
  ob : ∃ o ep, h.get? a = some o ∧ o.ExactSet ∧ o.data = .set (arrK w L) ep t
  tab : L2.TabOk t (L.map (kh w))
  uq : (L.map Prod.snd).Nodup
  led : w.params.followText "set-order" = true ∨ t.led = true
  room : L.length * 5 < t.mask * 3
  few : L.length < 64
theorem arrK_size (w : World) (L : List KA) : (arrK w L).size = L.length := by simp [arrK]
theorem arrK_at {L : List KA} {i : Nat} {p : KA} (e : L[i]? = some p) : (arrK w L)[i]? = some (rowK w p) := by simp [arrK, e]
theorem fits_of {t : SetTable} {L : List KA} (T : L2.TabOk t (L.map (kh w))) (m : L.length ≤ t.mask) : t.fits (arrK w L).size = true := by
  have z := T.sz
  rw [List.length_map] at z
  simp only [SetTable.fits, SetTable.fill, T.dm, arrK_size, z, beq_self_eq_true, Bool.true_and, decide_eq_true_eq]
  simpa using m
theorem nth_dummy (m : Nat) : ∀ (n : Nat) (p : SetTable.Probe), (L2.nth m p n).dummy = p.dummy
  | 0, _ => rfl
  | n + 1, p => by
    show (L2.nth m (L2.adv m p) n).dummy = p.dummy
    rw [nth_dummy m n]
    unfold L2.adv
    split <;> rfl
theorem quiet_of {x : KA} {ys : List Value} (hx : Keyed s.heap x) (hy : ∀ y ∈ ys, ∃ p : KA, y = .ref p.1 ∧ Keyed s.heap p) {Q : Bool → Shared → Prop} (q : Q false s) : wpAny (model P w) A (searchCouldBeSeen (.ref x.1) ys) Q E s := by
  unfold searchCouldBeSeen
  refine wpAny_bind (wpAny_forIn_list _ (fun left st s1 => st.1 = none ∧ s1 = s ∧ ∀ y ∈ left, ∃ p : KA, y = .ref p.1 ∧ Keyed s.heap p) _ (fun y left st s1 z => ?_) (fun st s1 z => ?_) _ _ ⟨rfl, rfl, hy⟩)
  · obtain ⟨z1, rfl, z3⟩ := z
    obtain ⟨p, rfl, hp⟩ := z3 y List.mem_cons_self
    have left' : ∀ y ∈ left, ∃ p : KA, y = .ref p.1 ∧ Keyed s1.heap p := fun u hu => z3 u (.tail _ hu)
    dsimp only
    refine wpAny_ite_split (fun _ => wpAny_pure ⟨rfl, rfl, left'⟩) fun _ => ?_
    refine wpAny_bind (quiet_key (prog := P) (w := w) _ _ 8 _ hx.1 hx.2 _ _ _ ?_)
    simp only [Bool.not_true, Bool.false_eq_true, if_false]
    refine wpAny_bind (quiet_key (prog := P) (w := w) _ _ 8 _ hp.1 hp.2 _ _ _ ?_)
    simp only [Bool.not_true, Bool.false_eq_true, if_false]
    refine wpAny_bind (noCls_key _ _ 8 _ hx.1 hx.2 _ _ _ ?_)
    simp only [Bool.false_eq_true, if_false]
    refine wpAny_bind (noCls_key _ _ 8 _ hp.1 hp.2 _ _ _ ?_)
    simp only [Bool.false_eq_true, if_false]
    exact wpAny_pure ⟨rfl, rfl, left'⟩
  · obtain ⟨st1, st2⟩ := st
    obtain ⟨z1, rfl, _⟩ := z
    cases z1
    exact wpAny_pure q
variable {a : Addr} {L : List KA} {t : SetTable}
/-- the way that the search for x goes -/
abbrev stepAt (w : World) (t : SetTable) (x : KA) (c : Nat) : SetTable.Probe := L2.nth t.mask (t.probeStart (kh w x)) c
theorem stepAt_add (x : KA) (c q : Nat) : L2.nth t.mask (stepAt w t x c) q = stepAt w t x (c + q) := (L2.nth_add t.mask c _ q).symm
theorem hunt (R : SetIs w s.heap a L t) (kd : ∀ p ∈ L, Keyed s.heap p) {x : KA} (hx : Keyed s.heap x) (hu : A.units + 8 < cLine) {K : Nat} (lim : K < 10 * SetTable.turns t.mask) (stop : (stepAt w t x K).j ∉ t.place.toList)
    (on : ∀ c, c < K → (stepAt w t x c).j ∈ t.place.toList) {Q : SetFound → Shared → Prop} (yes : x.2 ∈ L.map Prod.snd → Q (.there none) s) (no : x.2 ∉ L.map Prod.snd → Q (.free (stepAt w t x K).j false) s) :
    ∀ (f c : Nat) (st : Option SetTable.Probe), st.getD (t.probeStart (kh w x)) = stepAt w t x c → c ≤ K → K < f + c →
      (∀ (c' i : Nat) (p : KA), c' < c → t.place.toList[i]? = some (stepAt w t x c').j → L[i]? = some p → p.2 ≠ x.2) → wpAny (model P w) A (setSearchFrom a (.ref x.1) (kh w x) true f st) Q E s := by
  obtain ⟨o, ep, ho, hex, hd⟩ := R.ob
  have room := R.room
  have fit : t.fits (arrK w L).size = true := fits_of R.tab (by omega)
  have place_len : t.place.toList.length = L.length := by
    have z := R.tab.sz
    rw [List.length_map] at z
    rw [Array.length_toList, z]
  have said : ∀ (i : Nat) (p : KA), L[i]? = some p → (((arrK w L)[i]?.map (·.1)).getD 0) = kh w p := fun i p e => by rw [arrK_at e]; rfl
  intro f
  induction f with
  | zero => intro c st _ h1 h2; exact absurd h2 (by omega)
  | succ f ih =>
    intro c st hst hc hf old
    rw [L2.setSearchFrom_succ]
    refine wpAny_bind (wpAny_setState_of ho hd fit ?_)
    dsimp only
    refine L2.wp_if_neg (by unfold SetTable.gaveWay; rw [L2.mask_odd R.tab.mok]; decide) ?_
    have found := L2.go_spec t R.tab.ris R.tab.dm (fun i => ((arrK w L)[i]?.map (·.1)).getD 0) (kh w x) (10 * SetTable.turns t.mask) (K - c) (stepAt w t x c) (nth_dummy _ _ _) (by omega)
      (fun q hq => by rw [stepAt_add]; exact on _ (by omega)) (by rw [stepAt_add, show c + (K - c) = K by omega]; exact stop)
    rw [hst]
    rcases found with ⟨q, i, hq, hi, hh, fresh, e⟩ | ⟨fresh, e⟩
    · rw [show t.probe (fun i => ((arrK w L)[i]?.map (·.1)).getD 0) (kh w x) (stepAt w t x c) = _ from e]
      rw [stepAt_add] at hi ⊢
      rw [stepAt_add]
      dsimp only
      have li : i < L.length := by
        rw [← place_len]
        exact (List.getElem?_eq_some_iff.mp hi).1
      obtain ⟨p, hp⟩ : ∃ p, L[i]? = some p := ⟨_, List.getElem?_eq_getElem li⟩
      have mem := List.mem_of_getElem? hp
      have go : wpAny (model P w) A (L2.searchRest a (.ref x.1) (kh w x) true f (arrK w L) t (stepAt w t x (c + q)).j i (stepAt w t x (c + (q + 1)))) Q E s := by
        unfold L2.searchRest
        rw [arrK_at hp]
        dsimp only
        refine wpAny_bind (wpAny_holding ((nestedKind P w).eqBool (x := p.2) (y := x.2) hu (kd p mem) hx ?_))
        refine wpAny_bind (wpAny_setState_of ho hd fit ?_)
        dsimp only
        by_cases same : p.2 = x.2
        · refine L2.wp_if_pos (by simp [same]) ?_
          exact wpAny_pure (yes (List.mem_map.mpr ⟨p, mem, same⟩))
        · refine L2.wp_if_neg (by simp [same]) ?_
          rw [L2.sameMem]
          dsimp only
          have here : t.slot (stepAt w t x (c + q)).j = .live i := L2.slot_live R.tab.ris hi
          simp only [if_true, here, arrK_at hp]
          refine wpAny_bind (wpAny_isSame_ref_self (wpAny_bind (wpAny_pure ?_)))
          simp only [if_true]
          refine L2.wp_if_neg (by simp [same]) ?_
          refine ih (c + (q + 1)) _ rfl (by omega) (by omega) fun c' i' p' h1 h2 h3 => ?_
          rcases Nat.lt_trichotomy c' (c + q) with z | z | z
          · by_cases z2 : c' < c
            · exact old c' i' p' z2 h2 h3
            · intro same'
              refine fresh (c' - c) i' (by omega) (by rw [stepAt_add, show c + (c' - c) = c' by omega]; exact h2) ?_
              show ((arrK w L)[i']?.map (·.1)).getD 0 = _
              rw [said i' p' h3]
              exact congrArg (NestedKey.hash w) same'
          · subst z
            have there := L2.slot_live R.tab.ris h2
            rw [here] at there
            injection there with there
            rw [← there, hp] at h3
            cases h3
            exact same
          · omega
      by_cases led : t.led = true
      · refine L2.wp_if_neg (by simp [led]) ?_
        exact go
      · refine L2.wp_if_pos (by simp [led]) ?_
        refine wpAny_bind (quiet_of hx (fun y hy => ?_) ?_)
        · obtain ⟨e1, he, rfl⟩ := List.mem_map.mp hy
          have he2 : e1 ∈ (arrK w L).toList := by
            have := Array.mem_toList_iff.mp he
            simpa using (Array.mem_filter.mp this).1
          have eL : (arrK w L).toList = L.map (rowK w) := List.toList_toArray
          rw [eL] at he2
          obtain ⟨p1, hp1, rfl⟩ := List.mem_map.mp he2
          exact ⟨p1, rfl, kd p1 hp1⟩
        · refine L2.wp_if_neg (by decide) ?_
          exact go
    · rw [show t.probe (fun i => ((arrK w L)[i]?.map (·.1)).getD 0) (kh w x) (stepAt w t x c) = _ from e]
      rw [stepAt_add, show c + (K - c) = K by omega]
      dsimp only
      refine wpAny_pure (no fun hm => ?_)
      obtain ⟨p, hp, same⟩ := List.mem_map.mp hm
      obtain ⟨i, hi, rfl⟩ := List.getElem_of_mem hp
      have e1 : L[i]? = some L[i] := List.getElem?_eq_getElem hi
      have hh : (L.map (kh w))[i]? = some (kh w x) := by
        rw [List.getElem?_map, e1]
        exact congrArg some (congrArg (NestedKey.hash w) same)
      have hj : t.place.toList[i]? = some (t.place.toList[i]'(by rw [place_len]; exact hi)) := List.getElem?_eq_getElem _
      obtain ⟨c', lt, e2⟩ := R.tab.before (K := K) (show L2.way t.mask (kh w x) K ∉ t.place.toList from stop) hh hj
      have e3 : t.place.toList[i]? = some (stepAt w t x c').j := by rw [hj]; exact congrArg some e2.symm
      by_cases z : c' < c
      · exact old c' i _ z e3 e1 same
      · refine fresh (c' - c) i (by omega) (by rw [stepAt_add, show c + (c' - c) = c' by omega]; exact e3) ?_
        show ((arrK w L)[i]?.map (·.1)).getD 0 = _
        rw [said i _ e1]
        exact congrArg (NestedKey.hash w) same
theorem seek (R : SetIs w s.heap a L t) (kd : ∀ p ∈ L, Keyed s.heap p) {x : KA} (hx : Keyed s.heap x) (hu : A.units + 8 < cLine) {Q : SetFound → Shared → Prop} (yes : x.2 ∈ L.map Prod.snd → Q (.there none) s)
    (no : ∀ K, x.2 ∉ L.map Prod.snd → L2.way t.mask (kh w x) K ∉ t.place.toList → (∀ c, c < K → L2.way t.mask (kh w x) c ∈ t.place.toList) → Q (.free (L2.way t.mask (kh w x) K) false) s) : wpAny (model P w) A (setSearch a (.ref x.1) (kh w x) true) Q E s := by
  have room := R.room
  obtain ⟨K, lim, stop, on⟩ := R.tab.first (by rw [List.length_map]; omega) (kh w x)
  have turns : 10 * SetTable.turns t.mask ≤ 1420 := by
    unfold SetTable.turns
    rcases R.tab.mok with e | e | e <;> rw [e] <;> decide
  exact hunt R kd hx hu lim stop on yes (fun z => no K z stop on) 100000 0 none rfl (Nat.zero_le _) (by omega) fun c' i p z => absurd z (Nat.not_lt_zero _)
theorem Keyed.same {h h' : Heap} {a : Addr} {o : Obj} {es : Array (Int × Value)} {ep : Nat} {t : SetTable} {p : KA} (ho : h.get? a = some o) (hd : o.data = .set es ep t) (sb : Heap.SameBut a h h') (x : Keyed h p) : Keyed h' p :=
  x.keep fun b ob us n hb hc => by
    rw [sb.2 b fun z => ?_]
    · exact hb
    · subst z
      rw [ho] at hb
      cases hb
      rw [hd] at hc
      cases hc
theorem range_all {α : Type} : ∀ L : List α, (List.range L.length).filterMap (fun i => L[i]?) = L
  | [] => rfl
  | x :: L => by
    have ih := range_all L
    rw [List.length_cons, List.range_succ_eq_map, List.filterMap_cons]
    simp only [List.getElem?_cons_zero, List.filterMap_map]
    exact congrArg (x :: ·) (by simpa [Function.comp_def] using ih)
theorem arr_order (L : List KA) (order : Array Nat) : order.filterMap ((arrK w L)[·]?) = arrK w (order.toList.filterMap fun i => L[i]?) := by
  apply Array.ext'
  have each : ∀ i : Nat, (arrK w L)[i]? = (L[i]?).map (rowK w) := fun i => by simp [arrK]
  rw [Array.toList_filterMap, show (arrK w (order.toList.filterMap fun i => L[i]?)).toList = (order.toList.filterMap fun i => L[i]?).map (rowK w) from List.toList_toArray, List.map_filterMap]
  congr 1
  funext i
  exact each i
theorem hash_order (L : List KA) : ∀ l : List Nat, (∀ i ∈ l, i < L.length) → (l.filterMap fun i => L[i]?).map (kh w) = l.map fun i => ((arrK w L).map (·.1)).getD i 0
  | [], _ => rfl
  | i :: l, h => by
    have li : i < L.length := h i List.mem_cons_self
    have e : L[i]? = some L[i] := List.getElem?_eq_getElem li
    rw [List.filterMap_cons, e]
    simp only [List.map_cons]
    rw [hash_order L l fun j hj => h j (.tail _ hj)]
    congr 1
    have e2 : ((arrK w L).map (·.1))[i]? = some (kh w L[i]) := by rw [Array.getElem?_map, arrK_at e]; rfl
    rw [Array.getD_eq_getD_getElem?, e2]
    rfl
theorem widen {o : Obj} {ep : Nat} (ho : s.heap.get? a = some o) (hex : o.ExactSet) (hd : o.data = .set (arrK w L) ep t) (T : L2.TabOk t (L.map (kh w))) (uq : (L.map Prod.snd).Nodup) (led : w.params.followText "set-order" = true ∨ t.led = true) (few : L.length < 64) (fit : L.length ≤ t.mask)
    {wanted M : Nat} (hM : SetTable.sizeAbove wanted = M + 1) (mok : L2.MaskOk M) (room : L.length * 5 < M * 3) {Q : Unit → Shared → Prop}
    (q : ∀ h' L' t', Heap.SameBut a s.heap h' → SetIs w h' a L' t' → L'.Perm L → Q () { s with heap := h' }) : wpAny (model P w) A (setRelay a wanted) Q E s := by
  have small : M ≤ 127 := by rcases mok with e | e | e <;> omega
  obtain ⟨t', order, e, pm, T', em, el, _, _⟩ := L2.relaid_ok t (hs := (arrK w L).map (·.1)) (wanted := wanted) (by rw [hM]; rfl) mok (by rw [Array.size_map, arrK_size]; omega)
  rw [Array.size_map, arrK_size] at pm
  have back : (order.toList.filterMap fun i => L[i]?).Perm L := by
    have := pm.filterMap fun i => L[i]?
    rwa [range_all] at this
  rw [← hash_order L order.toList fun i hi => List.mem_range.mp (pm.mem_iff.mp hi)] at T'
  rw [L2.setRelay_eq]
  refine wpAny_bind (wpAny_setState_of ho hd (fits_of T fit) ?_)
  dsimp only
  refine L2.wp_if_neg (by rw [hM, sizeLine_eq]; omega) ?_
  rw [e]
  dsimp only
  rw [arr_order]
  generalize (order.toList.filterMap fun i => L[i]?) = L' at back T'
  refine wpAny_bind (L2.wp_if_neg (by rw [arrK_size, arrK_size, back.length_eq]; simp) (wpAny_pure ?_))
  dsimp only
  refine wpAny_storeSet_of ho hd ?_ (by rw [arrK_size, back.length_eq, sizeLine_eq]; omega)
  have sb : Heap.SameBut a s.heap (s.heap.update a (Obj.putSet (arrK w L') t')) := Heap.SameBut.update ..
  exact q _ L' t' sb ⟨⟨_, ep + 1, L2.store_at ho hd, ⟨hex.1, hex.2.1, hex.2.2⟩, rfl⟩, T', (back.map Prod.snd).nodup_iff.mpr uq, by rw [el]; exact led, by rw [back.length_eq, em]; exact room, by rw [back.length_eq]; exact few⟩ back
theorem put_in (R : SetIs w s.heap a L t) (kd : ∀ p ∈ L, Keyed s.heap p) {x : KA} (hx : Keyed s.heap x) (hu : A.units + 8 < cLine) (few : x.2 ∉ L.map Prod.snd → L.length + 1 < 64) {Q : Bool → Shared → Prop}
    (q : ∀ b h' L' t', Heap.SameBut a s.heap h' → SetIs w h' a L' t' → (x.2 ∈ L.map Prod.snd → L' = L) → (x.2 ∉ L.map Prod.snd → L'.Perm (x :: L)) → Q b { s with heap := h' }) : wpAny (model P w) A (setAddHashed a (.ref x.1) (kh w x)) Q E s := by
  obtain ⟨o, ep, ho, hex, hd⟩ := id R.ob
  have room := R.room
  have fit : t.fits (arrK w L).size = true := fits_of R.tab (by omega)
  unfold setAddHashed
  refine wpAny_holding ?_
  rw [show (100000 : Nat) = 99999 + 1 from rfl, L2.setAddHashedIn_succ]
  refine wpAny_bind (wpAny_setState_of ho hd fit ?_)
  dsimp only
  refine L2.wp_if_neg (by simp [byScan, Value.scannable]) ?_
  refine wpAny_bind (seek R kd hx hu (fun hm => ?_) fun K hm stop on => ?_)
  · exact wpAny_pure (q false s.heap L t (Heap.SameBut.refl a s.heap) R (fun _ => rfl) fun z => absurd hm z)
  · dsimp only
    have few := few hm
    refine wpAny_bind (wpAny_setState_of ho hd fit ?_)
    dsimp only
    obtain ⟨q1, q2, q3, q4, q5, q6, q7, q8, q9⟩ := R.tab.put stop on
    generalize t.put (L2.way t.mask (kh w x) K) = both at q1 q3 q4 q5 q6 q7 q8 q9 ⊢
    obtain ⟨t1, at_⟩ := both
    dsimp only at q1 q3 q4 q5 q6 q7 q8 q9 ⊢
    subst q1
    rw [List.length_map] at q2 q9
    generalize SetTable.below t.place (L2.way t.mask (kh w x) K) = at_ at q2 q3 ⊢
    have pm : (L.take at_ ++ x :: L.drop at_).Perm (x :: L) := by
      have := List.perm_middle (a := x) (l₁ := L.take at_) (l₂ := L.drop at_)
      rwa [List.take_append_drop] at this
    have rows : SetTable.insertAt (arrK w L) at_ (kh w x, .ref x.1) = arrK w (L.take at_ ++ x :: L.drop at_) := by
      apply Array.ext'
      rw [SetTable.toList_insertAt]
      simp [arrK]
    rw [rows]
    have hs : (L.map (kh w)).take at_ ++ kh w x :: (L.map (kh w)).drop at_ = (L.take at_ ++ x :: L.drop at_).map (kh w) := by simp
    rw [hs] at q3
    generalize (L.take at_ ++ x :: L.drop at_) = L1 at pm q3 ⊢
    have len1 : L1.length = L.length + 1 := pm.length_eq
    have uq1 : (L1.map Prod.snd).Nodup := (pm.map Prod.snd).nodup_iff.mpr (by rw [List.map_cons]; exact List.nodup_cons.mpr ⟨hm, R.uq⟩)
    have led1 : w.params.followText "set-order" = true ∨ t1.led = true := by rw [q5]; exact R.led
    -- whether its hash is by value or not, the table stays as good
    have rest : ∀ t2 : SetTable, L2.TabOk t2 (L1.map (kh w)) → t2.mask = t.mask → t2.led = t1.led → t2.fill = L.length + 1 → wpAny (model P w) A (do
        storeSet a (arrK w L1) t2
        if !false && t2.tooFull then setRelay a (SetTable.grown ((arrK w L).size + 1))
        return true) Q E s := fun t2 T2 m2 l2 f2 => by
      refine wpAny_bind (wpAny_storeSet_of ho hd ?_ (by rw [arrK_size, len1, sizeLine_eq]; omega))
      have sb : Heap.SameBut a s.heap (s.heap.update a (Obj.putSet (arrK w L1) t2)) := Heap.SameBut.update ..
      have ho1 := L2.store_at (es' := arrK w L1) (t' := t2) ho hd
      generalize s.heap.update a (Obj.putSet (arrK w L1) t2) = h1 at sb ho1 ⊢
      have led2 : w.params.followText "set-order" = true ∨ t2.led = true := by rw [l2]; exact led1
      by_cases full : t2.tooFull = true
      · refine L2.wp_if_pos (by simp [full]) ?_
        have much : (L.length + 1) * 5 ≥ t.mask * 3 := by
          unfold SetTable.tooFull at full
          rw [decide_eq_true_eq, f2, m2] at full
          exact full
        rw [arrK_size]
        have ways : ∃ M, SetTable.sizeAbove (SetTable.grown (L.length + 1)) = M + 1 ∧ L2.MaskOk M ∧ L1.length * 5 < M * 3 := by
          rcases R.tab.mok with e | e | e
          · refine ⟨31, ?_, .inr (.inl rfl), by omega⟩
            rw [show L.length + 1 = 5 by omega, L2.size_20]
          · refine ⟨127, ?_, .inr (.inr rfl), by omega⟩
            rw [show L.length + 1 = 19 by omega, L2.size_76]
          · exact absurd much (by omega)
        obtain ⟨M, e1, e2, e3⟩ := ways
        refine wpAny_bind (widen (s := { s with heap := h1 }) ho1 ⟨hex.1, hex.2.1, hex.2.2⟩ rfl T2 uq1 led2 (by omega) (by omega) e1 e2 e3 fun h2 L2' t3 sb2 R2 pm2 => ?_)
        exact wpAny_pure (q true h2 L2' t3 (sb.trans sb2) R2 (fun z => absurd z hm) fun _ => pm2.trans pm)
      · refine L2.wp_if_neg (by simp [full]) ?_
        refine wpAny_pure (q true h1 L1 t2 sb ⟨⟨_, ep + 1, ho1, ⟨hex.1, hex.2.1, hex.2.2⟩, rfl⟩, T2, uq1, led2, ?_, by omega⟩ (fun z => absurd z hm) fun _ => pm)
        unfold SetTable.tooFull at full
        rw [decide_eq_true_eq, f2] at full
        omega
    obtain ⟨b, kb⟩ := hashSaid_key (P := P) (w := w) _ _ 8 _ hx.1 hx.2
    have fin : ∀ b : Bool, wpAny (model P w) A (do
        let t2 := if b then t1 else { t1 with plain := false }
        storeSet a (arrK w L1) t2
        if !false && t2.tooFull then setRelay a (SetTable.grown ((arrK w L).size + 1))
        return true) Q E s := fun b => by
      cases b with
      | true => exact rest t1 q3 q4 rfl q9
      | false => exact rest { t1 with plain := false } ⟨q3.ris, q3.dm, q3.sz, q3.mok, q3.bd, q3.reach⟩ q4 rfl q9
    by_cases pl : t1.plain = true
    · first
        | (refine wpAny_bind (L2.wp_if_pos pl ?_); exact kb _ _ _ (fin b))
        | (refine L2.wp_if_pos pl (wpAny_bind ?_); exact kb _ _ _ (fin b))
    · first
        | (refine wpAny_bind (L2.wp_if_neg pl (wpAny_pure ?_)); exact fin true)
        | (refine L2.wp_if_neg pl (wpAny_bind (wpAny_pure ?_)); exact fin true)
end
end Tr
set_option maxRecDepth 100000
set_option maxHeartbeats 4000000
/-! Sets that are made of a list or a tuple: what is put in stands there once. -/
namespace Tr
open PySem PySem.Spec PyProof.Rows
/-- the new set, empty -/
def bareSet (w : World) : Obj := ⟨.type "set", none, .set #[] 0 (.fresh 0 0 (!w.params.followText "set-order")), #[]⟩
section
variable {P : Program} {w : World} {A : Around} {I S : Addr} {fp wr : List Addr} {G : Array GenState → Array GenState → Prop} {n : Nat} {Y : Nat → Value → Prop} {St : Nat → Shared → Prop}
/-- item by item; Part i h: the set holds the first i of them -/
theorem fillG (W : WalksS P w A.in1 I fp wr G n Y St) (out : S ∉ fp) {Part : Nat → Heap → Prop} {h0 : Heap} (S0 : h0.get? S = none) (w0 : ∀ b ∈ wr, h0.get? b = none)
    (keep : ∀ i h h', Part i h → (∀ o, h.get? S = some o → h'.get? S = some o) → Part i h')
    (add : ∀ (i : Nat) (v : Value) (s : Shared) (E : Value → Shared → Prop) (Q : Bool → Shared → Prop), i < n → Y i v → (∀ b o, h0.get? b = some o → s.heap.get? b = some o) → Part i s.heap →
      (∀ b h' tk, Heap.SameBut S s.heap h' → Part (i + 1) h' → s.toks ≤ tk → Q b { s with heap := h', toks := tk }) → wpAny (model P w) A.in1 (setAdd S v) Q E s)
    {R : Result → Shared → Prop} (m : Nat) :
    ∀ (i : Nat) (s : Shared), i + m = n → St i s → (∀ b o, h0.get? b = some o → s.heap.get? b = some o) → Part i s.heap →
      (∀ t, Moved (S :: wr) G s t → Part n t.heap → (∀ b o, h0.get? b = some o → t.heap.get? b = some o) → R (.ok (.ret .none)) t) → codeAny (model P w) A (.builtin "set.update.loop" ⟨[.ref S, .ref I], []⟩) R s := by
  have nw : S ∉ wr := fun q => out (W.sub _ q)
  have sb : ∀ b ∈ wr, b ∈ S :: wr := fun b q => .tail _ q
  have qt := PyProof.Rows.F.plain_set_update_loop
  have on : ∀ {s t : Shared}, Moved wr G s t → (∀ b o, h0.get? b = some o → s.heap.get? b = some o) → ∀ b o, h0.get? b = some o → t.heap.get? b = some o := fun mv k b o e =>
    mv.heap b o (fun z => by rw [w0 b z] at e; cases e) (k b o e)
  induction m with
  | zero =>
    intro i s e st old hs fin
    obtain rfl : i = n := e
    refine codeAny_builtin PyProof.Rows.F.entry_set_update_loop (Around.under_plainId qt _ ▸ ?_)
    refine wpAny_bind (m := pyNext (.ref I)) (W.done s _ _ st fun t mv => ?_)
    show wpAny _ A.in1 (ret Value.none) _ _ t
    exact wpAny_pure (fin t (mv.mono sb) (keep _ _ _ hs fun o => mv.heap S o nw) (on mv old))
  | succ m more =>
    intro i s e st old hs fin
    have lt : i < n := by omega
    refine codeAny_builtin PyProof.Rows.F.entry_set_update_loop (Around.under_plainId qt _ ▸ ?_)
    refine wpAny_bind (m := pyNext (.ref I)) (W.item i s _ _ lt st fun v t yv st1 mv => ?_)
    show wpAny _ A.in1 (holding [v] (setAdd S v) >>= _) _ _ t
    refine wpAny_bind (wpAny_holding (add i v t _ _ lt yv (on mv old) (keep _ _ _ hs fun o => mv.heap S o nw) fun b h2 tk but hs2 le => wpAny_pure ⟨plainId_quiet qt _, ?_⟩))
    refine more (i + 1) _ (by omega) (W.frame _ t _ _ st1 le fun c hc o q => ?_) (fun c o q => ?_) hs2 fun u mv2 hu hk => fin u (Moved.trans W.gtrans ((mv.mono sb).then_heap le fun c o nb q => ?_) mv2) hu hk
    · show h2.get? c = some o
      rw [but.2 c (fun z : c = S => out (z ▸ hc))]
      exact q
    · show h2.get? c = some o
      rw [but.2 c (fun z => by rw [z, S0] at q; cases q)]
      exact on mv old c o q
    · show h2.get? c = some o
      rw [but.2 c (fun z : c = S => nb (z ▸ List.mem_cons_self))]
      exact q
end
section
variable {P : Program} {w : World} {A : Around} {E : Value → Shared → Prop} {s : Shared} {l : Addr} {its : Array Value}
/-- set(xs): what add says of each item holds of all of them -/
theorem set_made (calm : A.handled = none) (seq : s.heap.IsList l its ∨ s.heap.IsTuple l its) {Part : Nat → Heap → Prop}
    (new : ∀ h : Heap, h.get? s.heap.objs.size = some (bareSet w) → Part 0 h) (keep : ∀ i h h', Part i h → (∀ o, h.get? s.heap.objs.size = some o → h'.get? s.heap.objs.size = some o) → Part i h')
    (add : ∀ (i : Nat) (v : Value) (t : Shared) (E : Value → Shared → Prop) (Q : Bool → Shared → Prop), i < its.size → its[i]? = some v → (∀ b o, s.heap.get? b = some o → t.heap.get? b = some o) → Part i t.heap →
      (∀ b h' tk, Heap.SameBut s.heap.objs.size t.heap h' → Part (i + 1) h' → t.toks ≤ tk → Q b { t with heap := h', toks := tk }) → wpAny (model P w) A.in1.in1.in1 (setAdd s.heap.objs.size v) Q E t)
    {Q : Value → Shared → Prop} (q : ∀ h tk, Part its.size h → (∀ b o, s.heap.get? b = some o → h.get? b = some o) → Q (.ref s.heap.objs.size) { s with heap := h, toks := tk }) : wpAny (model P w) A (call (.type "set") [.ref l]) Q E s := by
  obtain ⟨_, _, f1⟩ := PySem.F.called_set.mro
  have f2 := PySem.F.called_set.made
  have f3 := PySem.F.called_set.sub
  have f4 := PySem.F.called_set.notType
  have f5 := PySem.F.called_set.canCreate
  have f6 := PySem.F.typeCall_set_1 (.ref l)
  refine wpAny_call (codeAny_of_tree ?_)
  show wpAny _ _ (callAny (.type "set") _) _ _ _
  refine wpAny_pure ⟨Code.quiet_builtin _ (by decide +kernel), codeAny_builtin PySem.F.entry_type_call (Around.under_plain (weight_type_call_type "set" [.ref l] []) rfl ▸ ?_)⟩
  repeat any_goals (first | assumption | wp_step)
  refine codeAny_mono (L2.code_set_led1 (.ref l) (E := E) (Q₁ := fun ob t => ob = .ref s.heap.objs.size ∧ t = { s with heap := s.heap.push (bareSet w) }) ⟨rfl, rfl⟩) fun r t hr => ?_
  match r, hr with
  | .error _, hr => exact hr
  | .ok .next, hr => exact hr.elim
  | .ok .brk, hr => exact hr.elim
  | .ok .cont, hr => exact hr.elim
  | .ok (.ret ob), hr =>
    obtain ⟨rfl, rfl⟩ := hr
    have at_ : (s.heap.push (bareSet w)).get? s.heap.objs.size = some (bareSet w) := Heap.get?_push_size _ rfl
    have ty : Shared.TypeIs { s with heap := s.heap.push (bareSet w) } (.ref s.heap.objs.size) "set" := ⟨_, at_, rfl⟩
    have g1 := PySem.F.called_set.init.lookup
    have g2 := PySem.F.called_set.init.bind (.ref s.heap.objs.size)
    repeat any_goals (first | assumption | wp_step)
    refine codeAny_mono (codeAny_call_builtin (R := wants (fun r t => r = .none ∧ ∃ h tk, t = { s with heap := h, toks := tk } ∧ Part its.size h ∧ ∀ b o, s.heap.get? b = some o → h.get? b = some o) E) PySem.F.called_set.init.plain PySem.F.entry_set_init (check_set_init_1 ty ?_)) fun r t hr => ?_
    · have none_of : ∀ b, s.heap.objs.size ≤ b → s.heap.get? b = none := fun b hb => by
        cases q : s.heap.get? b with
        | none => rfl
        | some o => exact absurd (Heap.lt_size q) (Nat.not_lt.mpr hb)
      have z1 : (s.heap.push (bareSet w)).objs.size = s.heap.objs.size + 1 := Heap.size_push ..
      -- behind the iterator it is the same for lists and tuples
      have loop : ∀ {fp : List Addr} {St : Nat → Shared → Prop} {it : Obj}, s.heap.objs.size ∉ fp → WalksS P w A.in1.in1.in1 (s.heap.objs.size + 1) fp [s.heap.objs.size + 1] (fun g g' => g' = g) its.size (fun i v => its[i]? = some v) St →
          St 0 { s with heap := (s.heap.push (bareSet w)).push it } → codeAny (model P w) A.in1.in1 (.builtin "set.update.loop" ⟨[.ref s.heap.objs.size, .ref (s.heap.objs.size + 1)], []⟩) (fun r t => r = .ok (.ret .none) ∧ ∃ h tk, t = { s with heap := h, toks := tk } ∧ Part its.size h ∧ ∀ b o, s.heap.get? b = some o → h.get? b = some o) { s with heap := (s.heap.push (bareSet w)).push it } := by
        intro fp St it away W st
        refine fillG W away (none_of _ (Nat.le_refl _)) (fun b hb => none_of b (by rw [List.mem_singleton.mp hb]; exact Nat.le_succ _)) keep add its.size 0 _ (Nat.zero_add _) st (fun b o e => Heap.get?_push_of_some _ (Heap.get?_push_of_some _ e)) (new _ (Heap.get?_push_of_some _ at_)) ?_
        rintro ⟨h', g', d', tk', os'⟩ mv hs' old
        obtain rfl : g' = s.gens := mv.gens
        obtain rfl : d' = s.drawn := mv.drawn
        obtain rfl : os' = s.os := mv.os
        exact ⟨rfl, h', tk', rfl, hs', old⟩
      rcases seq with seq | seq
      · obtain ⟨⟨oc, od, da, sl⟩, ho, hc, nl, hd⟩ := seq
        simp only at hc hd
        subst hc hd
        have ho1 : (s.heap.push (bareSet w)).get? l = some ⟨.type "list", od, .seq its nl, sl⟩ := Heap.get?_push_of_some _ ho
        have t1 : (s.heap.push (bareSet w)).IsList l its := ⟨_, ho1, rfl, nl, rfl⟩
        have k1 := PySem.F.sub_list_set
        have k2 := PySem.F.sub_list_frozenset
        have k3 : (Value.type "list" == Value.type "dict") = false := by decide
        have ne : l ≠ (s.heap.push (bareSet w)).objs.size := by rw [z1]; exact Nat.ne_of_lt (Nat.lt_succ_of_lt (Heap.lt_size ho))
        have away : s.heap.objs.size ∉ [(s.heap.push (bareSet w)).objs.size, l] := fun c => by
          rcases List.mem_cons.mp c with c | c
          · rw [z1] at c; exact absurd c (Nat.ne_of_lt (Nat.lt_succ_self _))
          · rw [List.mem_singleton] at c; exact absurd c (Nat.ne_of_gt (Heap.lt_size ho))
        unfold Builtin.«set.__init__» noKeywords Builtin.Frozenset.updateFrom
        generalize hPI : pyIter = PI
        wp_walk
        subst hPI
        refine wpAny_pyIter_list t1 (wpAny_bind (wpAny_runValue ?_))
        rw [← z1] at loop
        refine codeAny_mono (loop (it := { cls := .type "list_iterator", data := .fields #[.ref l, .int 0 0] }) away (Walks.list (prog := P) (w := w) (A := A.in1.in1.in1) (by simp [calm]) (s.heap.push (bareSet w)).objs.size l ne its).toS ⟨⟨_, Heap.get?_push_size _ rfl, rfl, rfl⟩, t1.push _⟩) fun r t hr => ?_
        obtain ⟨rfl, hr⟩ := hr
        obtain ⟨h', tk', rfl, md, old⟩ := hr
        show wpAny _ _ _ _ _ _
        refine wpAny_pure ?_
        show wpAny _ _ (ret Value.none) _ _ _
        exact wpAny_pure ⟨rfl, h', tk', rfl, md, old⟩
      · obtain ⟨⟨oc, od, da, sl⟩, ho, hc, nl, hd⟩ := seq
        simp only at hc hd
        subst hc hd
        have ho1 : (s.heap.push (bareSet w)).get? l = some ⟨.type "tuple", od, .seq its nl, sl⟩ := Heap.get?_push_of_some _ ho
        have t1 : (s.heap.push (bareSet w)).IsTuple l its := ⟨_, ho1, rfl, nl, rfl⟩
        have k1 := PySem.F.sub_tuple_set
        have k2 := PySem.F.sub_tuple_frozenset
        have k3 : (Value.type "tuple" == Value.type "dict") = false := by decide
        have ne : l ≠ (s.heap.push (bareSet w)).objs.size := by rw [z1]; exact Nat.ne_of_lt (Nat.lt_succ_of_lt (Heap.lt_size ho))
        have away : s.heap.objs.size ∉ [(s.heap.push (bareSet w)).objs.size, l] := fun c => by
          rcases List.mem_cons.mp c with c | c
          · rw [z1] at c; exact absurd c (Nat.ne_of_lt (Nat.lt_succ_self _))
          · rw [List.mem_singleton] at c; exact absurd c (Nat.ne_of_gt (Heap.lt_size ho))
        unfold Builtin.«set.__init__» noKeywords Builtin.Frozenset.updateFrom
        generalize hPI : pyIter = PI
        wp_walk
        subst hPI
        refine wpAny_pyIter_tuple t1 (wpAny_bind (wpAny_runValue ?_))
        rw [← z1] at loop
        refine codeAny_mono (loop (it := { cls := .type "tuple_iterator", data := .fields #[.ref l, .int 0 0] }) away (Walks.tuple (prog := P) (w := w) (A := A.in1.in1.in1) (by simp [calm]) (s.heap.push (bareSet w)).objs.size l ne its).toS ⟨⟨_, Heap.get?_push_size _ rfl, rfl, rfl⟩, t1.push _⟩) fun r t hr => ?_
        obtain ⟨rfl, hr⟩ := hr
        obtain ⟨h', tk', rfl, md, old⟩ := hr
        show wpAny _ _ _ _ _ _
        refine wpAny_pure ?_
        show wpAny _ _ (ret Value.none) _ _ _
        exact wpAny_pure ⟨rfl, h', tk', rfl, md, old⟩
    · match r, hr with
      | .error _, hr => exact hr
      | .ok .next, hr => exact hr.elim
      | .ok .brk, hr => exact hr.elim
      | .ok .cont, hr => exact hr.elim
      | .ok (.ret u), hr =>
        obtain ⟨rfl, h', tk, rfl, md, old⟩ := hr
        repeat any_goals (first | assumption | wp_step)
        exact q _ _ md old
end
end Tr
set_option maxRecDepth 100000
set_option maxHeartbeats 4000000
/-! set(a tuple of unlike texts), and how many they are. -/
namespace Tm
open PySem PySem.Spec PyProof.Rows
/-- the new set, still empty -/
def emptySet (led : Bool) : Obj := ⟨.type "set", none, .set #[] 0 (.fresh 0 0 led), #[]⟩
section
variable {prog : Program} {w : World} {A : Around} {I S : Addr} {fp wr : List Addr} {G : Array GenState → Array GenState → Prop} {n : Nat} {Y : Nat → Value → Prop} {St : Nat → Shared → Prop}
theorem setOf_keep {h h' : Heap} {Z : Str → Bool} {m : Nat} (x : h.SetOf (PySem.strKind prog w) S Z m) (k : ∀ o, h.get? S = some o → h'.get? S = some o) : h'.SetOf (PySem.strKind prog w) S Z m := by
  obtain ⟨o, es, ep, t, e, r⟩ := x
  exact ⟨o, es, ep, t, k o e, r⟩
/-- each turn puts one more text into it -/
theorem fill (W : WalksS prog w A.in1 I fp wr G n Y St) (out : S ∉ fp) (xs : List Str) (ud : xs.Nodup) (many : xs.length = n) (few : n + 1 < scanBound) (txt : ∀ i v, Y i v → ∃ t, v = .str (xs.getD i Str.empty) t) {R : Result → Shared → Prop} (m : Nat) :
    ∀ (i : Nat) (s : Shared), i + m = n → St i s → s.heap.SetOf (PySem.strKind prog w) S (fun z => decide (z ∈ xs.take i)) i →
      (∀ t, Moved (S :: wr) G s t → t.heap.SetOf (PySem.strKind prog w) S (fun z => decide (z ∈ xs.take n)) n → R (.ok (.ret .none)) t) → codeAny (model prog w) A (.builtin "set.update.loop" ⟨[.ref S, .ref I], []⟩) R s := by
  have nw : S ∉ wr := fun q => out (W.sub _ q)
  have sb : ∀ b ∈ wr, b ∈ S :: wr := fun b q => .tail _ q
  have qt := PyProof.Rows.F.plain_set_update_loop
  induction m with
  | zero =>
    intro i s e st hs fin
    obtain rfl : i = n := e
    refine codeAny_builtin PyProof.Rows.F.entry_set_update_loop (Around.under_plainId qt _ ▸ ?_)
    refine wpAny_bind (m := pyNext (.ref I)) (W.done s _ _ st fun t mv => ?_)
    show wpAny _ A.in1 (ret Value.none) _ _ t
    exact wpAny_pure (fin t (mv.mono sb) (setOf_keep hs fun o => mv.heap S o nw))
  | succ m more =>
    intro i s e st hs fin
    have lt : i < n := by omega
    refine codeAny_builtin PyProof.Rows.F.entry_set_update_loop (Around.under_plainId qt _ ▸ ?_)
    refine wpAny_bind (m := pyNext (.ref I)) (W.item i s _ _ lt st fun v t yv st1 mv => ?_)
    obtain ⟨tk, rfl⟩ := txt i v yv
    have here : xs[i]? = some (xs.getD i Str.empty) := by
      rw [List.getElem?_eq_getElem (by omega : i < xs.length), List.getD_eq_getElem?_getD, List.getElem?_eq_getElem (by omega : i < xs.length)]
      rfl
    have hs1 := setOf_keep hs fun o => mv.heap S o nw
    show wpAny _ A.in1 (holding [Value.str (xs.getD i Str.empty) tk] (setAdd S (.str (xs.getD i Str.empty) tk)) >>= _) _ _ t
    unfold setAdd
    refine wpAny_bind (wpAny_holding (wpAny_holding (wpAny_bind ((PySem.strKind prog w).pyHash (k := xs.getD i Str.empty) (strKind_is _ _ _ _) ?_))))
    refine wpAny_setAddHashed_of (knd := PySem.strKind prog w) (s := { t with toks := t.toks + 1 }) (strKind_is _ _ _ _) rfl hs1 (by omega) fun h2 but hs2 => wpAny_pure ⟨plainId_quiet qt _, ?_⟩
    have fresh : xs.getD i Str.empty ∉ xs.take i := fun q => by
      obtain ⟨j, hj⟩ := List.getElem?_of_mem q
      rw [List.getElem?_take] at hj
      split at hj
      · have := L2.nd_ix ud hj here
        omega
      · cases hj
    refine more (i + 1) _ (by omega) (W.frame _ t _ _ st1 (Nat.le_succ _) fun b hb o q => ?_) (PyProof.Rows.SetOf_congr hs2 (fun z => ?_) (by rw [decide_eq_false fresh] <;> rfl)) fun u mv2 hu => fin u (Moved.trans W.gtrans ((mv.mono sb).then_heap (Nat.le_succ _) fun b o nb q => ?_) mv2) hu
    · rw [but.2 b (fun c : b = S => out (c ▸ hb))]
      exact q
    · rw [take_snoc here, ← Bool.decide_or]
      exact decide_eq_decide.mpr (by rw [List.mem_append, List.mem_singleton])
    · rw [but.2 b (fun c : b = S => nb (c ▸ List.mem_cons_self))]
      exact q
end
section
variable {prog : Program} {w : World} {A : Around} {E : Value → Shared → Prop} {s : Shared} {l : Addr} {its : Array Value} {xs : List Str}
/-- all that stood stands, and the texts lie in the set at S -/
def Made (prog : Program) (w : World) (s : Shared) (xs : List Str) (h : Heap) : Prop :=
  h.SetOf (PySem.strKind prog w) s.heap.objs.size (fun z => decide (z ∈ xs)) xs.length ∧ ∀ b o, b < s.heap.objs.size → s.heap.get? b = some o → h.get? b = some o
theorem set_texts (calm : A.handled = none) (tup : s.heap.IsTuple l its) (are : PyProof.Rows.StrsAre its.toList xs) (ud : xs.Nodup) (few : xs.length + 1 < scanBound) {Q : Value → Shared → Prop}
    (q : ∀ h tk, Made prog w s xs h → Q (.ref s.heap.objs.size) { s with heap := h, toks := tk }) : wpAny (model prog w) A (call (.type "set") [.ref l]) Q E s := by
  have sz : xs.length = its.size := (StrsAre.len_eq are).symm.trans Array.length_toList
  obtain ⟨_, _, f1⟩ := PySem.F.called_set.mro
  have f2 := PySem.F.called_set.made
  have f3 := PySem.F.called_set.sub
  have f4 := PySem.F.called_set.notType
  have f5 := PySem.F.called_set.canCreate
  have f6 := PySem.F.typeCall_set_1 (.ref l)
  refine wpAny_call (codeAny_of_tree ?_)
  show wpAny _ _ (callAny (.type "set") _) _ _ _
  refine wpAny_pure ⟨Code.quiet_builtin _ (by decide +kernel), codeAny_builtin PySem.F.entry_type_call (Around.under_plain (weight_type_call_type "set" [.ref l] []) rfl ▸ ?_)⟩
  repeat any_goals (first | assumption | wp_step)
  refine codeAny_mono (code_set_new_1 (.ref l) (E := E) (Q₁ := fun ob t => ∃ led, ob = .ref s.heap.objs.size ∧ t = { s with heap := s.heap.push (emptySet led) }) fun led => ⟨led, rfl, rfl⟩) fun r t hr => ?_
  match r, hr with
  | .error _, hr => exact hr
  | .ok .next, hr => exact hr.elim
  | .ok .brk, hr => exact hr.elim
  | .ok .cont, hr => exact hr.elim
  | .ok (.ret ob), hr =>
    obtain ⟨led, rfl, rfl⟩ := hr
    have at_ : (s.heap.push (emptySet led)).get? s.heap.objs.size = some (emptySet led) := Heap.get?_push_size _ rfl
    have ty : Shared.TypeIs { s with heap := s.heap.push (emptySet led) } (.ref s.heap.objs.size) "set" := ⟨_, at_, rfl⟩
    have g1 := PySem.F.called_set.init.lookup
    have g2 := PySem.F.called_set.init.bind (.ref s.heap.objs.size)
    repeat any_goals (first | assumption | wp_step)
    refine codeAny_mono (codeAny_call_builtin (R := wants (fun r t => r = .none ∧ ∃ h tk, t = { s with heap := h, toks := tk } ∧ Made prog w s xs h) E) PySem.F.called_set.init.plain PySem.F.entry_set_init (check_set_init_1 ty ?_)) fun r t hr => ?_
    · obtain ⟨⟨oc, od, da, sl⟩, ho, hc, nl, hd⟩ := tup
      simp only at hc hd
      subst hc hd
      have ho1 : (s.heap.push (emptySet led)).get? l = some ⟨.type "tuple", od, .seq its nl, sl⟩ := Heap.get?_push_of_some _ ho
      have t1 : (s.heap.push (emptySet led)).IsTuple l its := ⟨_, ho1, rfl, nl, rfl⟩
      have k1 := PySem.F.sub_tuple_set
      have k2 := PySem.F.sub_tuple_frozenset
      have k3 : (Value.type "tuple" == Value.type "dict") = false := by decide
      unfold Builtin.«set.__init__» noKeywords Builtin.Frozenset.updateFrom
      generalize hPI : pyIter = PI
      wp_walk
      subst hPI
      refine wpAny_pyIter_tuple t1 (wpAny_bind (wpAny_runValue ?_))
      have below : l < s.heap.objs.size := Heap.lt_size ho
      have z1 : (s.heap.push (emptySet led)).objs.size = s.heap.objs.size + 1 := Heap.size_push ..
      have ne : l ≠ (s.heap.push (emptySet led)).objs.size := by rw [z1]; exact Nat.ne_of_lt (Nat.lt_succ_of_lt below)
      have away : s.heap.objs.size ∉ [(s.heap.push (emptySet led)).objs.size, l] := fun c => by
        rcases List.mem_cons.mp c with c | c
        · rw [z1] at c; exact absurd c (Nat.ne_of_lt (Nat.lt_succ_self _))
        · rw [List.mem_singleton] at c; exact absurd c (Nat.ne_of_gt below)
      refine fill ((Walks.tuple (A := A.in1.in1.in1) (by simp [calm]) _ l ne its).toS) away xs ud sz (by rw [← sz]; exact few) (fun i v hv => SS.strs_at are i v (by rw [Array.getElem?_toList]; exact hv)) its.size 0 _ (Nat.zero_add _)
        ⟨⟨_, Heap.get?_push_size _ rfl, rfl, rfl⟩, t1.push _⟩ ?_ ?_
      · exact PyProof.Rows.SetOf_congr ((PyProof.Rows.setObjOf_fresh (knd := PySem.strKind prog w) led).setOf (Heap.get?_push_of_some _ at_) (by unfold scanBound; omega)) (fun _ => rfl) rfl
      · rintro ⟨h', g', d', tk', os'⟩ mv hs'
        obtain rfl : g' = s.gens := mv.gens
        obtain rfl : d' = s.drawn := mv.drawn
        obtain rfl : os' = s.os := mv.os
        show wpAny _ _ _ _ _ _
        refine wpAny_pure ?_
        show wpAny _ _ (ret Value.none) _ _ _
        refine wpAny_pure ⟨rfl, h', tk', rfl, ?_, fun b o hb e => mv.heap b o (fun c => ?_) (Heap.get?_push_of_some _ (Heap.get?_push_of_some _ e))⟩
        · rw [← sz, List.take_length] at hs'
          exact hs'
        · rcases List.mem_cons.mp c with c | c
          · exact absurd c (Nat.ne_of_lt hb)
          · rw [List.mem_singleton, z1] at c
            exact absurd c (Nat.ne_of_lt (Nat.lt_succ_of_lt hb))
    · match r, hr with
      | .error _, hr => exact hr
      | .ok .next, hr => exact hr.elim
      | .ok .brk, hr => exact hr.elim
      | .ok .cont, hr => exact hr.elim
      | .ok (.ret u), hr =>
        obtain ⟨rfl, h', tk, rfl, md⟩ := hr
        repeat any_goals (first | assumption | wp_step)
        exact q _ _ md
theorem set_textsL (calm : A.handled = none) (tup : s.heap.IsList l its) (are : PyProof.Rows.StrsAre its.toList xs) (ud : xs.Nodup) (few : xs.length + 1 < scanBound) {Q : Value → Shared → Prop}
    (q : ∀ h tk, Made prog w s xs h → Q (.ref s.heap.objs.size) { s with heap := h, toks := tk }) : wpAny (model prog w) A (call (.type "set") [.ref l]) Q E s := by
  have sz : xs.length = its.size := (StrsAre.len_eq are).symm.trans Array.length_toList
  obtain ⟨_, _, f1⟩ := PySem.F.called_set.mro
  have f2 := PySem.F.called_set.made
  have f3 := PySem.F.called_set.sub
  have f4 := PySem.F.called_set.notType
  have f5 := PySem.F.called_set.canCreate
  have f6 := PySem.F.typeCall_set_1 (.ref l)
  refine wpAny_call (codeAny_of_tree ?_)
  show wpAny _ _ (callAny (.type "set") _) _ _ _
  refine wpAny_pure ⟨Code.quiet_builtin _ (by decide +kernel), codeAny_builtin PySem.F.entry_type_call (Around.under_plain (weight_type_call_type "set" [.ref l] []) rfl ▸ ?_)⟩
  repeat any_goals (first | assumption | wp_step)
  refine codeAny_mono (code_set_new_1 (.ref l) (E := E) (Q₁ := fun ob t => ∃ led, ob = .ref s.heap.objs.size ∧ t = { s with heap := s.heap.push (emptySet led) }) fun led => ⟨led, rfl, rfl⟩) fun r t hr => ?_
  match r, hr with
  | .error _, hr => exact hr
  | .ok .next, hr => exact hr.elim
  | .ok .brk, hr => exact hr.elim
  | .ok .cont, hr => exact hr.elim
  | .ok (.ret ob), hr =>
    obtain ⟨led, rfl, rfl⟩ := hr
    have at_ : (s.heap.push (emptySet led)).get? s.heap.objs.size = some (emptySet led) := Heap.get?_push_size _ rfl
    have ty : Shared.TypeIs { s with heap := s.heap.push (emptySet led) } (.ref s.heap.objs.size) "set" := ⟨_, at_, rfl⟩
    have g1 := PySem.F.called_set.init.lookup
    have g2 := PySem.F.called_set.init.bind (.ref s.heap.objs.size)
    repeat any_goals (first | assumption | wp_step)
    refine codeAny_mono (codeAny_call_builtin (R := wants (fun r t => r = .none ∧ ∃ h tk, t = { s with heap := h, toks := tk } ∧ Made prog w s xs h) E) PySem.F.called_set.init.plain PySem.F.entry_set_init (check_set_init_1 ty ?_)) fun r t hr => ?_
    · obtain ⟨⟨oc, od, da, sl⟩, ho, hc, nl, hd⟩ := tup
      simp only at hc hd
      subst hc hd
      have ho1 : (s.heap.push (emptySet led)).get? l = some ⟨.type "list", od, .seq its nl, sl⟩ := Heap.get?_push_of_some _ ho
      have t1 : (s.heap.push (emptySet led)).IsList l its := ⟨_, ho1, rfl, nl, rfl⟩
      have k1 := PySem.F.sub_list_set
      have k2 := PySem.F.sub_list_frozenset
      have k3 : (Value.type "list" == Value.type "dict") = false := by decide
      unfold Builtin.«set.__init__» noKeywords Builtin.Frozenset.updateFrom
      generalize hPI : pyIter = PI
      wp_walk
      subst hPI
      refine wpAny_pyIter_list t1 (wpAny_bind (wpAny_runValue ?_))
      have below : l < s.heap.objs.size := Heap.lt_size ho
      have z1 : (s.heap.push (emptySet led)).objs.size = s.heap.objs.size + 1 := Heap.size_push ..
      have ne : l ≠ (s.heap.push (emptySet led)).objs.size := by rw [z1]; exact Nat.ne_of_lt (Nat.lt_succ_of_lt below)
      have away : s.heap.objs.size ∉ [(s.heap.push (emptySet led)).objs.size, l] := fun c => by
        rcases List.mem_cons.mp c with c | c
        · rw [z1] at c; exact absurd c (Nat.ne_of_lt (Nat.lt_succ_self _))
        · rw [List.mem_singleton] at c; exact absurd c (Nat.ne_of_gt below)
      refine fill ((Walks.list (A := A.in1.in1.in1) (by simp [calm]) _ l ne its).toS) away xs ud sz (by rw [← sz]; exact few) (fun i v hv => SS.strs_at are i v (by rw [Array.getElem?_toList]; exact hv)) its.size 0 _ (Nat.zero_add _)
        ⟨⟨_, Heap.get?_push_size _ rfl, rfl, rfl⟩, t1.push _⟩ ?_ ?_
      · exact PyProof.Rows.SetOf_congr ((PyProof.Rows.setObjOf_fresh (knd := PySem.strKind prog w) led).setOf (Heap.get?_push_of_some _ at_) (by unfold scanBound; omega)) (fun _ => rfl) rfl
      · rintro ⟨h', g', d', tk', os'⟩ mv hs'
        obtain rfl : g' = s.gens := mv.gens
        obtain rfl : d' = s.drawn := mv.drawn
        obtain rfl : os' = s.os := mv.os
        show wpAny _ _ _ _ _ _
        refine wpAny_pure ?_
        show wpAny _ _ (ret Value.none) _ _ _
        refine wpAny_pure ⟨rfl, h', tk', rfl, ?_, fun b o hb e => mv.heap b o (fun c => ?_) (Heap.get?_push_of_some _ (Heap.get?_push_of_some _ e))⟩
        · rw [← sz, List.take_length] at hs'
          exact hs'
        · rcases List.mem_cons.mp c with c | c
          · exact absurd c (Nat.ne_of_lt hb)
          · rw [List.mem_singleton, z1] at c
            exact absurd c (Nat.ne_of_lt (Nat.lt_succ_of_lt hb))
    · match r, hr with
      | .error _, hr => exact hr
      | .ok .next, hr => exact hr.elim
      | .ok .brk, hr => exact hr.elim
      | .ok .cont, hr => exact hr.elim
      | .ok (.ret u), hr =>
        obtain ⟨rfl, h', tk, rfl, md⟩ := hr
        repeat any_goals (first | assumption | wp_step)
        exact q _ _ md
end
end Tm
namespace Tm
open PySem PySem.Spec PyProof.Rows L2
/-- len(set(xs)), xs a tuple of unlike texts -/
def tLenSetS (K : PySem.W.Frag) (ta : TE) : TE := fun σ H Q => ta σ H fun x H1 => ∃ l, ∃ xs : List Str, x = .ref l ∧ (SqL K H1 l (xs.map V.str) ∨ SqT K H1 l (xs.map V.str)) ∧ xs.Nodup ∧ xs.length + 1 < 4096 ∧ Q (.int xs.length) H1
section
variable {X : Cx}
theorem pe_lenSetS {a : Expr} {ta : TE} {p p2 q pos : Pos} (hc : X.calm = true) (g1 : Gl X "len") (m1 : X.mg "len" = none) (g2 : Gl X "set") (m2 : X.mg "set" = none) (ha : PE X a ta)
    (na : starEach [a] X.env = (false, eval a X.env) :: starEach [] X.env := by rfl) : PE X (.Call (.Name "len" p) [.Call (.Name "set" p2) [a] [] q] [] pos) (tLenSetS X.K ta) := by
  refine ⟨fun pins s σ H Q I h => ?_⟩
  refine Call_ (ld_blt I g1 m1 boot_len (PyProof.Rows.callWith_builtin1 (PyProof.Rows.args_cons ?_ rfl) rfl rfl))
  refine Call_ (ld_blt I g2 m2 boot_set (PyProof.Rows.callWith_type1 (PyProof.Rows.args_cons ?_ na) na rfl))
  refine thn (ha.run pins s σ H _ I h) fun v s1 ⟨x, H1, I1, r1, l, xs, ex, hq, ud, few, q1⟩ => PyProof.Rows.args_nil ?_
  subst ex
  cases r1
  have fin : ∀ (h' : Heap) (tk : Nat), Made X.prog X.w s1 xs h' → wpAny (model X.prog X.w) X.A (spliced (backTo pos (starEach [] X.env))) (fun vs s₂ => wpAny (model X.prog X.w) X.A (call (.builtin "len") (Value.ref s1.heap.objs.size :: vs)) (EP X pins σ Q) X.xe s₂) X.xe { s1 with heap := h', toks := tk } := fun h' tk md => by
    refine PyProof.Rows.args_nil ?_
    obtain ⟨⟨o, es, ep, t, ho, hex, hd, _, _, _, hf, hn⟩, hk⟩ := md
    have I2 : Inv X pins σ H1 { s1 with heap := h', toks := tk } := I1.kept fun b o e => hk b o (Heap.lt_size e) e
    exact call_len_set ho hex hd hf (by rw [hn] <;> omega) ⟨.int xs.length, H1, I2.tok _, ⟨_, by rw [hn]⟩, q1⟩
  rcases hq with hq | hq
  · obtain ⟨its, r, pl, _⟩ := I1.list hq
    exact set_textsL (I1.ok.hd hc) pl.isList (by simpa using strsAre_of r) ud few fun h' tk md => fin h' tk md
  · obtain ⟨its, r, pl, _⟩ := I1.tuple hq
    exact set_texts (I1.ok.hd hc) pl (by simpa using strsAre_of r) ud few fun h' tk md => fin h' tk md
end
end Tm
set_option maxRecDepth 100000
set_option maxHeartbeats 4000000
/-! max(a list of ints, default = d); list of a text. -/
namespace Tm
open PySem PySem.Spec PyProof.Rows
theorem ints_len : ∀ {us : List Value} {ns : List Int}, IntsAre us ns → us.length = ns.length
  | _, _, .nil => rfl
  | _, _, .cons _ _ h => congrArg Nat.succ (ints_len h)
theorem args_max_d (a d : Value) : argsOk "max" ⟨[a], [(Str.ofString "default", d)]⟩ := by unfold argsOk; kernel_rfl
theorem bind_max_d (d : Value) : Builtin.Builtins.bindParams "max" ["key", "default"] 0 ⟨[], [(Str.ofString "default", d)]⟩ = pure [none, some d] := by kernel_rfl
section
variable {prog : Program} {w : World} {A : Around} {I S : Addr} {fp wr : List Addr} {G : Array GenState → Array GenState → Prop} {n : Nat} {Y : Nat → Value → Prop} {St : Nat → Shared → Prop}
/-- the best of the first i, twice -/
def Best (Y : Nat → Value → Prop) (val : Nat → Int) : Nat → List Value → Prop
  | 0, b => b = []
  | i + 1, b => ∃ j v, j ≤ i ∧ Y j v ∧ b = [v, v] ∧ ∀ k, k ≤ i → val k ≤ val j
theorem max_turns (W : WalksS prog w A.in1 I fp wr G n Y St) (out : S ∉ fp) (val : Nat → Int) (num : ∀ i v, Y i v → ∃ t, v = .int (val i) t) (d : Value) {R : Result → Shared → Prop} (m : Nat) :
    ∀ (i : Nat) (s : Shared) (b : List Value) (c : Nat), i + m = n → St i s → s.heap.get? S = some ⟨.type "list", none, .seq b.toArray c, #[]⟩ → Best Y val i b →
      (∀ t b, Moved (S :: wr) G s t → Best Y val n b → R (.ok (.ret (b.headD d))) t) → codeAny (model prog w) A (.builtin "max.loop" ⟨[.ref I, .none, .ref S], [("default", d)]⟩) R s := by
  have nw : S ∉ wr := fun q => out (W.sub _ q)
  have sb : ∀ b ∈ wr, b ∈ S :: wr := fun b q => .tail _ q
  have qt := F.plain_max_loop
  have off : ∀ {b : Addr}, b ∉ S :: wr → S ≠ b := fun q e => q (e ▸ List.mem_cons_self)
  have name : (toString "max" ++ toString ".loop" : String) = "max.loop" := by decide
  induction m with
  | zero =>
    intro i s b c e st hs bs fin
    obtain rfl : i = n := e
    refine codeAny_builtin F.entry_max_loop (Around.under_plainId qt _ ▸ ?_)
    refine wpAny_bind (m := seqItems? (.ref S)) (wpAny_seqItems hs rfl ?_)
    show wpAny _ A.in1 (tryCatch (pyNext (.ref I)) _ >>= _) _ _ s
    refine wpAny_bind (wpAny_tryCatch (W.done s _ _ st fun t mv => ?_))
    have hs1 := mv.heap S _ nw hs
    match i, bs with
    | 0, bs =>
      obtain rfl : b = [] := bs
      show wpAny _ A.in1 (rule _ >>= fun _ => ret d) _ _ t
      exact wpAny_bind (wpAny_rule (wpAny_pure (fin t [] (mv.mono sb) rfl)))
    | i + 1, bs =>
      obtain ⟨j, v, hj, yv, rfl, mx⟩ := bs
      show wpAny _ A.in1 (updateSeq S (fun _ => #[]) >>= _) _ _ t
      refine wpAny_bind (wpAny_updateSeq hs1 rfl (wpAny_bind (wpAny_letGo (wpAny_pure ?_))))
      exact fin _ [v, v] ((mv.mono sb).then_heap (tk := t.toks) (Nat.le_refl _) fun b o nb q => (Heap.get?_update_other _ _ (off nb)).trans q) ⟨j, v, hj, yv, rfl, mx⟩
  | succ m more =>
    intro i s b c e st hs bs fin
    have lt : i < n := by omega
    refine codeAny_builtin F.entry_max_loop (Around.under_plainId qt _ ▸ ?_)
    refine wpAny_bind (m := seqItems? (.ref S)) (wpAny_seqItems hs rfl ?_)
    show wpAny _ A.in1 (tryCatch (pyNext (.ref I)) _ >>= _) _ _ s
    refine wpAny_bind (wpAny_tryCatch (W.item i s _ _ lt st fun v t yv st1 mv => ?_))
    have hs1 := mv.heap S _ nw hs
    match i, bs with
    | 0, bs =>
      obtain rfl : b = [] := bs
      show wpAny _ A.in1 (updateSeq S (fun _ => #[v, v]) >>= _) _ _ t
      refine wpAny_bind (wpAny_updateSeq hs1 rfl ?_)
      rw [name]
      refine wpAny_pure ⟨plainId_quiet qt _, more 1 _ [v, v] _ (by omega) (W.frame _ t _ t.toks st1 (Nat.le_refl _) fun b hb o q => ?_) (Heap.get?_update_self _ hs1 rfl) ⟨0, v, Nat.le_refl _, yv, rfl, fun k hk => ?_⟩ fun u b2 mv2 bs2 => ?_⟩
      · exact (Heap.get?_update_other _ _ (fun x : S = b => out (x ▸ hb))).trans q
      · rw [Nat.le_zero.mp hk]
        exact Int.le_refl _
      · exact fin u b2 (Moved.trans W.gtrans ((mv.mono sb).then_heap (Nat.le_refl _) fun b o nb q => (Heap.get?_update_other _ _ (off nb)).trans q) mv2) bs2
    | i + 1, bs =>
      obtain ⟨j, vb, hj, yb, rfl, mx⟩ := bs
      show wpAny _ A.in1 (tryCatch (holding [v, v] (richCompare .Gt v vb >>= _)) _ >>= _) _ _ t
      refine wpAny_bind (wpAny_tryCatch (wpAny_holding (wpAny_bind (CmpOf.ints_gt val num (i + 1) j v vb _ _ _ yv yb ?_))))
      refine wpAny_bind (wpAny_holding (wpAny_truthy_bool (wpAny_bind (wpAny_letGo (wpAny_pure ?_)))))
      by_cases more1 : val (i + 1) > val j
      · simp only [decide_eq_true more1, if_true]
        refine wpAny_bind (wpAny_updateSeq hs1 rfl (wpAny_bind (wpAny_letGo ?_)))
        rw [name]
        refine wpAny_pure ⟨plainId_quiet qt _, more (i + 2) _ [v, v] _ (by omega) (W.frame _ t _ t.toks st1 (Nat.le_refl _) fun b hb o q => ?_) (Heap.get?_update_self _ hs1 rfl) ⟨i + 1, v, Nat.le_refl _, yv, rfl, fun k hk => ?_⟩ fun u b2 mv2 bs2 => ?_⟩
        · exact (Heap.get?_update_other _ _ (fun x : S = b => out (x ▸ hb))).trans q
        · rcases Nat.lt_or_ge k (i + 1) with lk | gk
          · have := mx k (by omega)
            omega
          · rw [show k = i + 1 by omega]
            exact Int.le_refl _
        · exact fin u b2 (Moved.trans W.gtrans ((mv.mono sb).then_heap (Nat.le_refl _) fun b o nb q => (Heap.get?_update_other _ _ (off nb)).trans q) mv2) bs2
      · simp only [decide_eq_false more1, Bool.false_eq_true, if_false]
        refine wpAny_bind (wpAny_letGo ?_)
        rw [name]
        refine wpAny_pure ⟨plainId_quiet qt _, more (i + 2) _ [vb, vb] c (by omega) st1 hs1 ⟨j, vb, by omega, yb, rfl, fun k hk => ?_⟩ fun u b2 mv2 bs2 => fin u b2 (Moved.trans W.gtrans (mv.mono sb) mv2) bs2⟩
        rcases Nat.lt_or_ge k (i + 1) with lk | gk
        · exact mx k (by omega)
        · rw [show k = i + 1 by omega]
          omega
end
section
variable {prog : Program} {w : World} {A : Around} {E : Value → Shared → Prop} {s : Shared} {l : Addr} {its : List Value} {ns : List Int} {d : Value}
theorem max_dflt (calm : A.handled = none) (lst : s.heap.IsList l its.toArray) (are : IntsAre its ns) {Q : Value → Shared → Prop}
    (q : ∀ h tk v, (∀ b o, s.heap.get? b = some o → h.get? b = some o) → ((ns = [] ∧ v = d) ∨ ∃ m t, v = .int m t ∧ m ∈ ns ∧ ∀ y ∈ ns, y ≤ m) → Q v { s with heap := h, toks := tk }) :
    wpAny (model prog w) A (call (.builtin "max") [.ref l] [(Str.ofString "default", d)]) Q E s := by
  have hlt : l < s.heap.objs.size := by
    obtain ⟨_, e, _⟩ := lst
    exact Heap.lt_size e
  refine wpAny_call (codeAny_call_builtin F.plain_max F.entry_max ?_)
  have ok := args_max_d (.ref l) d
  have main : wpAny (model prog w) A.in1 (Builtin.«max» ⟨[.ref l], [(Str.ofString "default", d)]⟩) (fun fin s' => match fin with
      | .done f => (match (Except.ok f : Result) with | .ok (.ret v) => Q v s' | .ok _ => False | .error e => E e s')
      | .again c' => c'.quiet = true ∧ codeAny (model prog w) A c' (fun r s' => match r with | .ok (.ret v) => Q v s' | .ok _ => False | .error e => E e s') s') E s := by
    show wpAny _ A.in1 (Builtin.Builtins.bindParams "max" ["key", "default"] 0 ⟨[], [(Str.ofString "default", d)]⟩ >>= _) _ _ s
    refine wpAny_bind (wpAny_of_eq (bind_max_d d) (wpAny_bind (wpAny_pure (wpAny_bind (wpAny_pyIter_list lst (wpAny_bind (wpAny_newObj_type ?_)))))))
    rw [show (toString "max" ++ toString ".loop" : String) = "max.loop" by decide]
    have z1 : (s.heap.push { cls := .type "list_iterator", data := .fields #[.ref l, .int 0 0] }).objs.size = s.heap.objs.size + 1 := Heap.size_push ..
    have ne : l ≠ s.heap.objs.size := Nat.ne_of_lt hlt
    have num : ∀ (i : Nat) (v : Value), its.toArray[i]? = some v → ∃ t, v = .int (ns.getD i 0) t := fun i v e => PyProof.Rows.IntsAre.int_at are i v (by simpa using e)
    have many : its.length = ns.length := ints_len are
    refine wpAny_pure ⟨plainId_quiet F.plain_max_loop _, max_turns (d := d) ((Walks.list (A := A.in1) (by simpa using calm) _ l ne its.toArray).toS) (fun c => ?_) (fun i => ns.getD i 0) num its.toArray.size 0 _ [] _ (Nat.zero_add _)
      ⟨⟨_, Heap.get?_push_of_some _ (Heap.get?_push_size _ rfl), rfl, rfl⟩, (lst.push _).push _⟩ (Heap.get?_push_size _ rfl) rfl fun t b mv bs => ?_⟩
    · rcases List.mem_cons.mp c with c | c
      · rw [z1] at c
        exact absurd c (Nat.ne_of_gt (Nat.lt_succ_self _))
      · rw [List.mem_singleton, z1] at c
        exact absurd c (Nat.ne_of_gt (Nat.lt_succ_of_lt hlt))
    · obtain ⟨h', g', d', tk', os'⟩ := t
      obtain rfl : g' = s.gens := mv.gens
      obtain rfl : d' = s.drawn := mv.drawn
      obtain rfl : os' = s.os := mv.os
      refine q h' tk' _ (fun b o e => mv.heap b o (fun c => ?_) (Heap.get?_push_of_some _ (Heap.get?_push_of_some _ e))) ?_
      · have lb := Heap.lt_size e
        rcases List.mem_cons.mp c with c | c
        · rw [c, z1] at lb
          exact absurd lb (Nat.not_lt.mpr (Nat.le_succ _))
        · rw [List.mem_singleton] at c
          rw [c] at lb
          exact absurd lb (Nat.lt_irrefl _)
      · rw [show its.toArray.size = ns.length by simpa using many] at bs
        match ns, bs, num, many with
        | [], bs, _, _ =>
          obtain rfl : b = [] := bs
          exact .inl ⟨rfl, rfl⟩
        | n1 :: ns, bs, num, many =>
          obtain ⟨j, v, hj, yv, rfl, mx⟩ := bs
          obtain ⟨t, rfl⟩ := num j v yv
          refine .inr ⟨(n1 :: ns).getD j 0, t, rfl, ?_, fun y hy => ?_⟩
          · rw [List.getD_eq_getElem?_getD, List.getElem?_eq_getElem (by simp; omega)]
            exact List.getElem_mem _
          · obtain ⟨k, hk⟩ := List.getElem?_of_mem hy
            have lk : k < (n1 :: ns).length := (List.getElem?_eq_some_iff.mp hk).1
            have := mx k (by simp at lk; omega)
            simp only [List.getD_eq_getElem?_getD, hk] at this ⊢
            exact this
  simp only [checkBuiltinCall, F.kind_max]
  cases hsig : Manifest.signature? "max" with
  | none => exact wpAny_pure main
  | some sg =>
    simp only [argsOk, hsig] at ok
    exact wpAny_of_eq ok main
end
end Tm
namespace Tm
open PySem PySem.Spec PyProof.Rows L2
section
variable {X : Cx}
/-- max(ns, default = d) -/
def rMaxDf (K : PySem.W.Frag) : List V → List V → Hp → VK → Prop := fun vs zs H Q => ∃ (a : Addr) (ns : List Int) (d : V), vs = [.ref a] ∧ zs = [d] ∧ SqL K H a (ns.map V.int) ∧ (ns = [] → Q d H) ∧ ∀ m, m ∈ ns → (∀ y ∈ ns, y ≤ m) → Q (.int m) H
theorem cr_maxd (hc : X.calm = true) : CallRK X (.builtin "max") [Str.ofString "default"] (rMaxDf X.K) := by
  intro pins s σ H vs zs us ws Q I r rz h
  obtain ⟨a, ns, d, rfl, rfl, hs, q0, q1⟩ := h
  obtain ⟨its, rv, hl, _⟩ := I.list hs
  rw [Vals.ref1 r]
  obtain ⟨w1, rfl, e1⟩ := vals1 rz
  refine max_dflt (I.ok.hd hc) hl.isList rv.ints fun h tk v kept ans => ?_
  rcases ans with ⟨en, rfl⟩ | ⟨m, t, rfl, mm, mx⟩
  · exact ⟨d, H, I.kept kept, e1, q0 en⟩
  · exact ⟨.int m, H, I.kept kept, ⟨_, rfl⟩, q1 m mm mx⟩
theorem vals_by : ∀ {xs : List V} {us : List Value}, xs.length = us.length → (∀ (i : Nat) (x : V) (y : Value), xs[i]? = some x → us[i]? = some y → RelV x y) → Vals xs us
  | [], [], _, _ => .nil
  | x :: xs, u :: us, e, h => .cons (h 0 x u rfl rfl) (vals_by (Nat.succ.inj e) fun i a b p q => h (i + 1) a b p q)
/-- list(a text) -/
def rListStr : List V → Hp → VK → Prop := fun xs H Q => ∃ z : Str, xs = [.str z] ∧ z.cps.size ≤ 1000 ∧ ∀ l, H l = none → Q (.ref l) (upd H l (.lst (z.cps.toList.map fun c => V.str ⟨#[c]⟩)))
theorem call_list_strS (hc : X.calm = true) : CallR X (.type "list") rListStr := by
  intro pins s σ H xs us Q I r h
  obtain ⟨z, rfl, hz, q⟩ := h
  obtain ⟨v, rfl, t, rfl⟩ := vals1 r
  have z1 : z.cps.size ≤ sizeLine := by
    rw [sizeLine_eq]
    omega
  refine PySem.call_list_str (I.ok.hd hc) z t (fun h' tk acc c kept at_ its => ?_) z1
  have vs : Vals (z.cps.toList.map fun c => V.str ⟨#[c]⟩) acc.toList := by
    obtain ⟨n1, n2⟩ := its
    refine vals_by (by simp [n1]) fun i x y hx hy => ?_
    rw [List.getElem?_map] at hx
    obtain ⟨c, u, e1, e2⟩ := n2 i y (by simpa using hy)
    rw [Array.getElem?_toList, e1] at hx
    cases hx
    exact ⟨u, e2⟩
  exact ⟨.ref _, upd H s.heap.objs.size (.lst (z.cps.toList.map fun c => V.str ⟨#[c]⟩)), I.laid (t' := tk) kept (Nat.le_refl _) ⟨by simpa using z1, acc.toList, c, vs, by simpa using at_⟩, rfl, q _ (I.hok.fresh (Nat.le_refl _))⟩
end
end Tm
set_option maxRecDepth 100000
set_option maxHeartbeats 4000000
/-! Rows of a sheet, and how they lie in the heap. -/
namespace Tm
open PySem PySem.Spec PyProof.Rows L2

inductive Lay where
  | now
  | behind (xs : List Str)
  | beside (x : Str)
  | split (x : Str) (k : Int)
structure Row where
  name : Str
  lay : Lay
  need : Int
def NameOk (z : Str) : Prop := 1 ≤ z.length ∧ z.length ≤ 8 ∧ ∀ c ∈ z.cps.toList, 97 ≤ c ∧ c ≤ 122
def NeedOk (n : Int) : Prop := 0 ≤ n ∧ n ≤ 12
def Lay.Ok : Lay → Prop
  | .now => True
  | .behind xs => xs ≠ [] ∧ xs.length < 1000 ∧ xs.Nodup ∧ ∀ x ∈ xs, NameOk x
  | .beside x => NameOk x
  | .split x k => NameOk x ∧ 1 ≤ k ∧ k ≤ 11
def Lay.anchors : Lay → List Str
  | .now => []
  | .behind xs => xs
  | .beside x => [x]
  | .split x _ => [x]
structure Row.Ok (r : Row) : Prop where
  name : NameOk r.name
  lay : r.lay.Ok
  need : NeedOk r.need
def names (rows : List Row) : List Str := rows.map Row.name
/-- names unlike, anchors earlier -/
structure Named (rows : List Row) : Prop where
  ok : ∀ r ∈ rows, r.Ok
  unlike : (names rows).Nodup
  back : ∀ (i : Nat) r, rows[i]? = some r → ∀ x ∈ r.lay.anchors, x ∈ (names rows).take i

def LayAt (H : Hp) (v : V) : Lay → Prop
  | .now => ∃ a, v = .ref a ∧ H a = some (.tup [.str "now"])
  | .behind xs => ∃ a b, v = .ref a ∧ H a = some (.tup [.str "behind", .ref b]) ∧ H b = some (.tup (xs.map V.str))
  | .beside x => ∃ a, v = .ref a ∧ H a = some (.tup [.str "beside", .str x])
  | .split x k => ∃ a, v = .ref a ∧ H a = some (.tup [.str "split", .str x, .int k])
def RowAt (H : Hp) (v : V) (r : Row) : Prop := ∃ a l, v = .ref a ∧ H a = some (.tup [.str r.name, l, .int r.need]) ∧ LayAt H l r.lay
theorem LayAt.mono {H H' : Hp} (s : SameT H H') : ∀ {v : V} {l : Lay}, LayAt H v l → LayAt H' v l
  | _, .now, ⟨a, e, h⟩ => ⟨a, e, s _ _ h⟩
  | _, .behind _, ⟨a, b, e, h, g⟩ => ⟨a, b, e, s _ _ h, s _ _ g⟩
  | _, .beside _, ⟨a, e, h⟩ => ⟨a, e, s _ _ h⟩
  | _, .split _ _, ⟨a, e, h⟩ => ⟨a, e, s _ _ h⟩
theorem RowAt.mono {H H' : Hp} (s : SameT H H') {v : V} {r : Row} : RowAt H v r → RowAt H' v r
  | ⟨a, l, e, h, g⟩ => ⟨a, l, e, s _ _ h, LayAt.mono s g⟩
/-- a list of rows -/
def RowsAt (H : Hp) (vs : List V) (rows : List Row) : Prop := Paired (fun v r => RowAt H v r) vs rows
theorem RowsAt.mono {H H' : Hp} (s : SameT H H') {vs : List V} {rows : List Row} (h : RowsAt H vs rows) : RowsAt H' vs rows := pr_mono (fun _ _ q => RowAt.mono s q) h

section
variable {K : PySem.W.Frag} {H : Hp} {Q : VK} {a p : Addr} {xs : List V}
theorem sqT (h : H a = some (.tup xs)) : SqT K H a xs := Or.inl (Or.inl h)
theorem sqL (h : H a = some (.lst xs)) : SqL K H a xs := Or.inl (Or.inl h)
theorem x_isi {x c : V} {t u : Value} {b : Bool} (ty : TyX K H x t) (cl : ClsV c u) (k : PySem.W.kitOne K t u = some b) (h : Q (.bl b) H) : rIsi K [x, c] H Q := ⟨x, c, t, u, b, rfl, cl, ty, k, h⟩
theorem x_isi_str {z : Str} (h : Q (.bl true) H) : rIsi K [.str z, .ty "str"] H Q := x_isi (.base (.str z)) (.ty _) (kit_ty (by decide +kernel)) h
theorem x_isi_int {i : Int} (h : Q (.bl true) H) : rIsi K [.int i, .ty "int"] H Q := x_isi (.base (.int i)) (.ty _) (kit_ty (by decide +kernel)) h
theorem x_isi_intB {i : Int} (h : Q (.bl false) H) : rIsi K [.int i, .ty "bool"] H Q := x_isi (.base (.int i)) (.ty _) (kit_ty (by decide +kernel)) h
theorem x_isi_tup (e : H a = some (.tup xs)) (h : Q (.bl true) H) : rIsi K [.ref a, .ty "tuple"] H Q := x_isi (.base (.tup e)) (.ty _) (kit_ty (by decide +kernel)) h
theorem x_isi_dict {kvs : List (Key × V)} (e : H a = some (.dK kvs)) (h : Q (.bl true) H) : rIsi K [.ref a, .ty "dict"] H Q := x_isi (.base (.dK e)) (.ty _) (kit_ty (by decide +kernel)) h
theorem x_all {bs : List Bool} (e : SqL K H a (bs.map V.bl)) (h : Q (.bl (bs.all id)) H) : rAll K [.ref a] H Q := ⟨a, bs, rfl, e, h⟩
theorem x_allT {bs : List V} (e : H a = some (.lst bs)) (t : ∀ v ∈ bs, v = .bl true) (h : Q (.bl true) H) : rAll K [.ref a] H Q := by
  have e2 : ∀ (bs : List V), (∀ v ∈ bs, v = .bl true) → bs = (List.replicate bs.length true).map V.bl ∧ (List.replicate bs.length true).all id = true := by
    intro bs
    induction bs with
    | nil => exact fun _ => ⟨rfl, rfl⟩
    | cons b bs ih =>
      intro t
      obtain ⟨h1, h2⟩ := ih fun v hv => t v (.tail _ hv)
      refine ⟨?_, h2⟩
      show b :: bs = .bl true :: _
      rw [← h1, t b (.head _)]
  obtain ⟨h1, h2⟩ := e2 bs t
  refine x_all (bs := List.replicate bs.length true) (by rw [← h1]; exact sqL e) ?_
  rw [h2]
  exact h
theorem x_st2 {i j : Str} {F : Str → Str → Prop} (h : F i j) : ∃ a b, V.str i = .str a ∧ V.str j = .str b ∧ F a b := ⟨i, j, rfl, rfl, h⟩
theorem x_lenSet {t : TE} {σ : L2.St} (h : t σ H fun x H1 => ∃ l, ∃ ys : List Str, x = .ref l ∧ (SqL K H1 l (ys.map V.str) ∨ SqT K H1 l (ys.map V.str)) ∧ ys.Nodup ∧ ys.length + 1 < 4096 ∧ Q (.int ys.length) H1) : tLenSetS K t σ H Q := h
end
theorem a_le {c : Nat} (h : 97 ≤ c) : (!decide ((⟨#[c]⟩ : Str).cps.toList < ("a" : Str).cps.toList)) = true := by
  have e : ("a" : Str).cps.toList = [97] := by decide +kernel
  rw [e]
  show (!decide ([c] < [97])) = true
  have n : ¬ [c] < [97] := fun z => by
    cases z with
    | rel r => exact absurd r (by omega)
    | cons r => cases r
  rw [decide_eq_false n]
  rfl
theorem le_z {c : Nat} (h : c ≤ 122) : (!decide (("z" : Str).cps.toList < (⟨#[c]⟩ : Str).cps.toList)) = true := by
  have e : ("z" : Str).cps.toList = [122] := by decide +kernel
  rw [e]
  show (!decide ([122] < [c])) = true
  have n : ¬ [122] < [c] := fun z => by
    cases z with
    | rel r => exact absurd r (by omega)
    | cons r => cases r
  rw [decide_eq_false n]
  rfl
/-- what a pure def of the package promises: an answer, the heap only grown -/
def ans (v : V) (H : Hp) (Q : VK) : Prop := ∀ H', Same H H' → Q v H'
def spIsInt : Sp := fun vs H Q _ => ∃ i : Int, vs = [.int i] ∧ Q (.bl true) H
def spName : Sp := fun vs H Q _ => ∃ z : Str, vs = [.str z] ∧ NameOk z ∧ ans (.bl true) H Q
def spShare : Sp := fun vs H Q _ => ∃ i : Int, vs = [.int i] ∧ NeedOk i ∧ Q (.bl true) H
def spAnchors : Sp := fun vs H Q _ => ∃ (a : Addr) (xs : List Str), vs = [.ref a] ∧ H a = some (.tup (xs.map V.str)) ∧ (Lay.behind xs).Ok ∧ ans (.bl true) H Q
def spIsLay : Sp := fun vs H Q _ => ∃ (v : V) (l : Lay), vs = [v] ∧ LayAt H v l ∧ l.Ok ∧ ans (.bl true) H Q
def spIsLine : Sp := fun vs H Q _ => ∃ (v : V) (r : Row), vs = [v] ∧ RowAt H v r ∧ r.Ok ∧ ans (.bl true) H Q
def spAnchorsOf : Sp := fun vs H Q _ => ∃ (v : V) (l : Lay), vs = [v] ∧ LayAt H v l ∧ ∀ b H', Same H H' → H' b = some (.tup (l.anchors.map V.str)) → Q (.ref b) H'
def spCheckRows (K : PySem.W.Frag) : Sp := fun ws H Q _ => ∃ (a : Addr) (vs : List V) (rows : List Row), ws = [.ref a] ∧ H a = some (.lst vs) ∧ RowsAt H vs rows ∧ (∀ r ∈ rows, r.Ok) ∧ ∀ H', Same H H' → Q .non H'
def spCheckNames : Sp := fun ws H Q _ => ∃ (a : Addr) (vs : List V) (rows : List Row), ws = [.ref a] ∧ H a = some (.lst vs) ∧ RowsAt H vs rows ∧ rows.length < 1000 ∧ Named rows ∧ ∀ H', Same H H' → Q .non H'
def spCheckQuashed (K : PySem.W.Frag) : Sp := fun ws H Q _ => ∃ (q l : Addr) (gone all : List Str), ws = [.ref q, .ref l] ∧ (SqL K H q (gone.map V.str) ∨ SqT K H q (gone.map V.str)) ∧ H l = some (.lst (all.map V.str)) ∧ gone.length < 1000 ∧ gone.Nodup ∧ (∀ x ∈ gone, x ∈ all) ∧ ∀ H', Same H H' → Q .non H'
section
variable {σ : L2.St} {H : Hp} {te : TE} {k : VK} {z : Hp → Prop}
theorem x_yes (h : te σ H k) : tYes σ H fun b H3 => if b = true then te σ H3 k else z H3 := by
  unfold tYes
  exact iteT h
theorem x_yes2 {tk tv : TE} {k : V → V → Hp → Prop} (h : tk σ H fun a H4 => tv σ H4 fun y H5 => k a y H5) : tYes σ H fun b H3 => if b = true then tk σ H3 fun a H4 => tv σ H4 fun y H5 => k a y H5 else z H3 := by
  unfold tYes
  exact iteT h
end
theorem x_nbt {A B : Prop} (h : B) : if (!true) = true then A else B := h
theorem x_nbf {A B : Prop} (h : A) : if (!false) = true then A else B := h
section
variable {K : PySem.W.Frag} {σ : L2.St} {H : Hp} {QG : L2.St → Hp → Prop} {t : TG} {u : TGs} {v : V} {r xs : List V} {a : Addr} {n : Nat}
theorem x_gTup {t : TGs} (hs : SqT K H a xs) (hl : xs.length = n) (h : t xs σ H QG) : gTup K n t (.ref a) σ H QG := ⟨a, xs, rfl, hs, hl, h⟩
theorem x_gCons (h : t v σ H fun σ' H' => u r σ' H' QG) : gCons t u (v :: r) σ H QG := ⟨v, r, rfl, h⟩
theorem x_gNil (h : QG σ H) : gNil [] σ H QG := ⟨rfl, h⟩
theorem x_isi2 {x c1 c2 : V} {tv u1 u2 : Value} {b : Bool} {tp : Addr} {Q : VK} (htp : H tp = some (.tup [c1, c2])) (ty : TyX K H x tv) (h1 : ClsV c1 u1) (h2 : ClsV c2 u2) (k : PySem.W.kitAny K tv [u1, u2] = some b) (h : Q (.bl b) H) : rIsiT K [x, .ref tp] H Q :=
  ⟨x, tp, [c1, c2], tv, [u1, u2], b, rfl, htp, .cons h1 (.cons h2 .nil), ty, k, h⟩
end
/-- a dict of texts, each True -/
def ent (xs : List Str) : List (Key × V) := xs.map fun x => (Sum.inr x, V.bl true)
theorem ent_len (xs : List Str) : (ent xs).length = xs.length := List.length_map ..
theorem ent_in {x : Str} : ∀ {xs : List Str}, x ∈ xs → valV (ent xs) (Sum.inr x) = some (.bl true)
  | y :: xs, h => by
    by_cases e : y = x
    · exact valV_pos (congrArg Sum.inr e)
    · refine (valV_neg fun z => e (Sum.inr.inj z)).trans (ent_in ?_)
      rcases List.mem_cons.mp h with q | q
      · exact absurd q.symm e
      · exact q
theorem ent_out {x : Str} : ∀ {xs : List Str}, x ∉ xs → valV (ent xs) (Sum.inr x) = none
  | [], _ => rfl
  | y :: xs, h => (valV_neg fun z => h (by rw [Sum.inr.inj z]; exact .head _)).trans (ent_out fun q => h (.tail _ q))
theorem ent_put {x : Str} {xs : List Str} (h : x ∉ xs) : putK (ent xs) (Sum.inr x) (.bl true) = ent (xs ++ [x]) := by
  rw [putK_new _ (ent_out h)]
  unfold ent
  rw [List.map_append]
  rfl
theorem not_before {α : Type} {l : List α} (ud : l.Nodup) {i : Nat} {x : α} (h : l[i]? = some x) : x ∉ l.take i := fun q => by
  obtain ⟨j, hj⟩ := List.getElem?_of_mem q
  rw [List.getElem?_take] at hj
  split at hj
  · have := L2.nd_ix ud hj h
    omega
  · cases hj
section
variable {H : Hp} {d : Addr} {kvs : List (Key × V)} {k : Str} {v : V} {F : Option V → Prop} {A B : Prop}
theorem x_dinY (hd : H d = some (.dK kvs)) (e : valV kvs (Sum.inr k) = some v) (h : F (some v)) : ∃ a o, V.ref d = .ref a ∧ DGet H a (.str k) o ∧ F o := ⟨d, _, rfl, by rw [← e]; exact DGet.k (k := Sum.inr k) hd, h⟩
theorem x_dinN (hd : H d = some (.dK kvs)) (e : valV kvs (Sum.inr k) = none) (h : F none) : ∃ a o, V.ref d = .ref a ∧ DGet H a (.str k) o ∧ F o := ⟨d, _, rfl, by rw [← e]; exact DGet.k (k := Sum.inr k) hd, h⟩
theorem i_sn (h : B) : if (none : Option V).isSome = true then A else B := h
theorem i_ss (h : A) : if (some v).isSome = true then A else B := h
theorem i_nsn (h : A) : if (!(none : Option V).isSome) = true then A else B := h
theorem i_nss (h : B) : if (!(some v).isSome) = true then A else B := h
end
theorem flat_str (ys : List Str) : (ys.map V.str).all flatV = true := by
  rw [List.all_map]
  exact List.all_eq_true.mpr fun _ _ => rfl
theorem inV_str {z : Str} : ∀ {ys : List Str}, inV (.str z) (ys.map V.str) = decide (z ∈ ys)
  | [] => rfl
  | y :: ys => by
    have ih := inV_str (z := z) (ys := ys)
    unfold inV at ih ⊢
    rw [List.map_cons, List.any_cons, ih]
    have e : eqV (.str y) (.str z) = decide (y = z) := by
      show (y == z) = _
      by_cases q : y = z
      · rw [q, decide_eq_true rfl]
        exact beq_self_eq_true z
      · rw [decide_eq_false q]
        exact beq_eq_false_iff_ne.mpr q
    rw [e, ← Bool.decide_or]
    exact decide_eq_decide.mpr (by rw [List.mem_cons, eq_comm (a := y)])
section
variable {K : PySem.W.Frag} {H : Hp} {Q : VK} {p : Addr} {z : Str} {ys : List Str}
theorem x_inL (hs : SqL K H p (ys.map V.str)) (hz : z ∈ ys) (h : Q (.bl true) H) : rIn K false (.str z) (.ref p) H Q := ⟨p, _, rfl, .inl hs, rfl, flat_str ys, by
  rw [inV_str, decide_eq_true hz]
  exact h⟩
theorem x_inT (hs : SqT K H p (ys.map V.str)) (h : Q (.bl (decide (z ∈ ys))) H) : rIn K false (.str z) (.ref p) H Q := ⟨p, _, rfl, .inr hs, rfl, flat_str ys, by
  rw [inV_str]
  exact h⟩
theorem x_ninL (hs : SqL K H p (ys.map V.str)) (h : Q (.bl (!decide (z ∈ ys))) H) : rIn K true (.str z) (.ref p) H Q := ⟨p, _, rfl, .inl hs, rfl, flat_str ys, by
  rw [inV_str]
  exact h⟩
end
theorem nat_sub_len {α : Type} [DecidableEq α] : ∀ {xs ys : List α}, xs.Nodup → (∀ x ∈ xs, x ∈ ys) → xs.length ≤ ys.length
  | [], _, _, _ => Nat.zero_le _
  | x :: xs, ys, ud, h => by
    rw [List.nodup_cons] at ud
    have hx := h x (.head _)
    have ih := nat_sub_len (xs := xs) (ys := ys.erase x) ud.2 fun z hz => (List.mem_erase_of_ne (fun (e : z = x) => ud.1 (by rw [← e]; exact hz))).mpr (h z (.tail _ hz))
    rw [List.length_erase_of_mem hx] at ih
    have := List.length_pos_of_mem hx
    rw [List.length_cons]
    omega
theorem len_le {n : Nat} (h : n ≤ 10000) : n ≤ sizeLine := by
  rw [sizeLine_eq]
  omega
end Tm
set_option maxRecDepth 100000
set_option maxHeartbeats 4000000
/-! sorted(a tuple of texts); tuples of K. -/
namespace Tm
open PySem PySem.Spec PyProof.Rows L2
section
variable {X : Cx}
def rSortedTS (K : PySem.W.Frag) : List V → Hp → VK → Prop := fun vs H Q => ∃ (a : Addr) (xs : List Str), vs = [V.ref a] ∧ SqT K H a (xs.map V.str) ∧ xs.length < 64 ∧
  ∀ (ys : List Str) (p : Addr), ys.Perm xs → sortedS ys = true → H p = none → Q (.ref p) (upd H p (.lst (ys.map V.str)))
theorem cr_sortedTS : CallR X (.builtin "sorted") (rSortedTS X.K) := by
  intro pins s σ H vs us Q I r h
  obtain ⟨a, xs, rfl, hs, h64, q⟩ := h
  obtain ⟨its, rv, ⟨o, ho, hc, n, hd⟩, hz⟩ := I.tuple hs
  rw [Vals.ref1 r]
  have hlen0 := rv.length
  rw [List.length_map] at hlen0
  have hS := rv.strs
  refine Calls.call_function_entry PyProof.Rows.kind_sorted PyProof.Rows.plain_sorted PyProof.Rows.entry_sorted (PyProof.Rows.args_sorted1 _) ?_
  unfold Builtin.«sorted»
  refine wpAny_bind (m := checkCount "sorted" 1 1 _) (wpAny_pure ?_)
  refine wpAny_bind (wpAny_collect_seq a (.inr rfl) ho hc hd (fun h' kept => ?_) (by rw [List.size_toArray, ← hlen0]; simpa using hz))
  rw [show its.toArray.toList = its from rfl]
  refine wpAny_bind (wpAny_newList ?_)
  have at_ : (h'.push (seqObj "list" its.toArray 0)).get? h'.objs.size = some (seqObj "list" its.toArray 0) := Heap.get?_push_size _ rfl
  show wpAny _ _ _ _ _ { s with heap := h'.push (seqObj "list" its.toArray 0) }
  refine wpAny_bind (wpAny_holding (wpAny_call_entry PyProof.Rows.slot_list_sort ⟨_, at_, rfl⟩ PyProof.Rows.entry_list_sort
    (PyProof.Rows.list_sort_treeK PyProof.Rows.strKind_oneLt at_ hS.keysOf (fun v₁ v₂ rest e => PyProof.Rows.keyKind_strs (by rw [← e]; exact hS)) (by rw [← hlen0]; exact h64) fun st' a1 a2 => ⟨_, rfl, ?_⟩) (PyProof.Rows.args_list_sort _)))
  obtain ⟨ys, h1, h2, h3⟩ := PyProof.Rows.sorted_out_str hS a1 a2
  refine wpAny_pure ⟨_, rfl, ?_⟩
  obtain ⟨ep, he'⟩ := PyProof.Rows.sortedHeap_at (vs := its) (out := (PyProof.Rows.arrOf st').map (·.2)) at_
  have I2 : Inv X pins σ H { s with heap := h' } := I.kept (t' := s.toks) kept
  have hlen : (ys.map V.str).length ≤ sizeLine := by rw [List.length_map, h2.length_eq]; exact small64 h64
  refine ⟨.ref h'.objs.size, upd H h'.objs.size (.lst (ys.map V.str)), I2.laid (t' := s.toks) (fun b u e => ?_) (Nat.le_refl _) ⟨hlen, ((PyProof.Rows.arrOf st').map (·.2)).toList, ep, vals_of_strs h1, he'⟩, rfl, q ys _ h2 h3 (I2.hok.fresh (Nat.le_refl _))⟩
  have lb : b < h'.objs.size := Heap.lt_size e
  rw [PyProof.Rows.sortedHeap_old (Nat.ne_of_lt lb) (by rw [Heap.size_push]; exact Nat.lt_succ_of_lt lb)]
  exact Heap.get?_push_of_some _ e
end
section
variable {X : Cx} {tg l : Expr} {tl : TE}
/-- a list or a tuple, iterated -/
def iEither (K : PySem.W.Frag) (tl : TE) : TI := fun σ H R => iList K tl σ H R ∨ iTup K tl σ H R
theorem pi_either (hl : PE X l tl) : PI X tg l (iEither X.K tl) := ⟨fun pins s σ H R I h => h.elim ((pi_list hl).run pins s σ H R I) ((pi_tup hl).run pins s σ H R I)⟩
def rSortedE (K : PySem.W.Frag) : List V → Hp → VK → Prop := fun vs H Q => ∃ (a : Addr) (xs : List Str), vs = [V.ref a] ∧ (SqL K H a (xs.map V.str) ∨ SqT K H a (xs.map V.str)) ∧ xs.length < 64 ∧
  ∀ (ys : List Str) (p : Addr), ys.Perm xs → sortedS ys = true → H p = none → Q (.ref p) (upd H p (.lst (ys.map V.str)))
theorem cr_sortedE : CallR X (.builtin "sorted") (rSortedE X.K) := by
  intro pins s σ H vs us Q I r h
  obtain ⟨a, xs, e, hs, h64, q⟩ := h
  rcases hs with hs | hs
  · exact cr_sortedS pins s σ H vs us Q I r ⟨a, xs, e, hs, h64, q⟩
  · exact cr_sortedTS pins s σ H vs us Q I r ⟨a, xs, e, hs, h64, q⟩
end
section
variable {K : PySem.W.Frag} {H H' : Hp} {Q : VK} {a : Addr} {xs : List V}
theorem rd_same {o : HO} (s : Same H H') (h : Rd H a o) : Rd H' a o := by
  rcases h with h | ⟨ob, h⟩
  · exact .inl (s _ _ h)
  · exact .inr ⟨ob, s _ _ h⟩
theorem sqT_same (s : Same H H') (h : SqT K H a xs) : SqT K H' a xs := h.elim (fun q => .inl (rd_same s q)) .inr
theorem sqL_same (s : Same H H') (h : SqL K H a xs) : SqL K H' a xs := h.elim (fun q => .inl (rd_same s q)) .inr
def SqE (K : PySem.W.Frag) (H : Hp) (a : Addr) (xs : List V) : Prop := SqL K H a xs ∨ SqT K H a xs
theorem sqE_same (s : Same H H') (h : SqE K H a xs) : SqE K H' a xs := h.elim (fun q => .inl (sqL_same s q)) fun q => .inr (sqT_same s q)
theorem ty_lst (h : SqL K H a xs) : TyX K H (.ref a) (.type "list") := by
  rcases h with (h | ⟨ob, h⟩) | ⟨o, _, _, h1, h2, _⟩
  · exact .base (.lst h)
  · exact .base (.frz h)
  · exact .kList h1 h2
theorem ty_tup (h : SqT K H a xs) : TyX K H (.ref a) (.type "tuple") := by
  rcases h with (h | ⟨ob, h⟩) | ⟨o, _, _, h1, h2, _⟩
  · exact .base (.tup h)
  · exact .fTuple h
  · exact .kTuple h1 h2
end
/-- all stands but x -/
def But (x : Addr) (H H' : Hp) : Prop := ∀ b o, b ≠ x → H b = some o → H' b = some o
section
variable {K : PySem.W.Frag} {H H1 H2 : Hp} {a x p : Addr} {xs : List V} {o : HO}
theorem but_same (s : Same H H1) : But x H H1 := fun b o _ e => s b o e
theorem But.trans (u : But x H H1) (v : But x H1 H2) : But x H H2 := fun b o n e => v b o n (u b o n e)
theorem but_new (h : H p = none) : But x H (upd H p o) := but_same (same_new h)
theorem but_at : But x H (upd H x o) := fun b u n e => by rw [upd_ne n]; exact e
theorem but_back (h : H x = none) (s : Same H H1) (u : But x H1 H2) : Same H H2 := fun b o e => u b o (ne_of_none e h) (s b o e)
theorem sqT_but {C dx : Addr} {fs : List (Str × V)} (hx : H x = some (.ins C dx fs)) (u : But x H H1) (h : SqT K H a xs) : SqT K H1 a xs := by
  have ne : ∀ o, H a = some o → (∀ C dx fs, o ≠ .ins C dx fs) → a ≠ x := fun o e n z => by
    rw [z, hx] at e
    exact n _ _ _ (Option.some.inj e).symm
  rcases h with (h | ⟨ob, h⟩) | h
  · exact .inl (.inl (u _ _ (ne _ h fun _ _ _ z => nomatch z) h))
  · exact .inl (.inr ⟨ob, u _ _ (ne _ h fun _ _ _ z => nomatch z) h⟩)
  · exact .inr h
theorem sqL_but {C dx : Addr} {fs : List (Str × V)} (hx : H x = some (.ins C dx fs)) (u : But x H H1) (h : SqL K H a xs) : SqL K H1 a xs := by
  have ne : ∀ o, H a = some o → (∀ C dx fs, o ≠ .ins C dx fs) → a ≠ x := fun o e n z => by
    rw [z, hx] at e
    exact n _ _ _ (Option.some.inj e).symm
  rcases h with (h | ⟨ob, h⟩) | h
  · exact .inl (.inl (u _ _ (ne _ h fun _ _ _ z => nomatch z) h))
  · exact .inl (.inr ⟨ob, u _ _ (ne _ h fun _ _ _ z => nomatch z) h⟩)
  · exact .inr h
theorem sqE_but {C dx : Addr} {fs : List (Str × V)} (hx : H x = some (.ins C dx fs)) (u : But x H H1) (h : SqE K H a xs) : SqE K H1 a xs := h.elim (fun q => .inl (sqL_but hx u q)) fun q => .inr (sqT_but hx u q)
theorem sameT_but {C dx : Addr} {fs : List (Str × V)} (hx : H x = some (.ins C dx fs)) (u : But x H H1) : SameT H H1 := fun b ys e => u b _ (fun z => by
  rw [z, hx] at e
  cases e) e
end
theorem x_fldS {K : PySem.W.Frag} {ta tv : TE} {f : Str} {D : Ends} {σ : L2.St} {H : Hp} (h : tv σ H fun y H1 => ta σ H1 fun x H2 => ∃ a C dx fs, x = .ref a ∧ H2 a = some (.ins C dx fs) ∧ Cls K C ∧ NoAttr K C f ∧ fs.length < 1000 ∧
  D.nx σ (upd H2 a (.ins C dx (putF f y fs)))) : sFld K ta tv f D σ H := h
theorem x_fld {K : PySem.W.Frag} {ta : TE} {f : Str} {σ : L2.St} {H : Hp} {Q : VK} (h : ta σ H fun x H1 => ∃ a C dx fs v, x = .ref a ∧ H1 a = some (.ins C dx fs) ∧ Cls K C ∧ NoAttr K C f ∧ fs.lookup f = some v ∧ Q v H1) : tFld K ta f σ H Q := h
theorem acc_names {acc : List V} {rows : List Row} (h : Paired (fun v r => v = .str (Row.name r)) acc rows) : acc = (names rows).map V.str := by
  induction h with
  | nil => rfl
  | cons e _ ih =>
    rw [e, ih]
    rfl
theorem none_back {H H2 : Hp} {d : Addr} (s : Same H H2) (h : H2 d = none) : H d = none := by
  cases e : H d with
  | none => rfl
  | some o => rw [s _ _ e] at h; cases h
end Tm
set_option maxRecDepth 100000
set_option maxHeartbeats 4000000
/-! Days: what a sheet with lengths says, and how it lies in the heap. -/
namespace Tm
open PySem PySem.Spec PyProof.Rows L2
/-! ### lengths -/
def dayEnt (ls : List (Str × Int)) : List (Key × V) := ls.map fun p => (Sum.inr p.1, V.int p.2)
def dayOf (ls : List (Str × Int)) (x : Str) : Int := (ls.lookup x).getD 0
theorem look_cons {α : Type} {x y : Str} {v : α} {l : List (Str × α)} : ((y, v) :: l).lookup x = if y = x then some v else l.lookup x := by
  rw [List.lookup_cons]
  by_cases e : y = x
  · rw [if_pos e, e]
    simp
  · rw [if_neg e, show (x == y) = false from beq_eq_false_iff_ne.mpr (Ne.symm e)]
theorem dayEnt_val {x : Str} : ∀ {ls : List (Str × Int)}, valV (dayEnt ls) (Sum.inr x) = (ls.lookup x).map V.int
  | [] => rfl
  | (y, n) :: ls => by
    rw [look_cons]
    by_cases e : y = x
    · rw [if_pos e]
      exact valV_pos (congrArg Sum.inr e)
    · rw [if_neg e]
      exact (valV_neg fun z => e (Sum.inr.inj z)).trans dayEnt_val
theorem look_in {α : Type} {x : Str} : ∀ {ls : List (Str × α)}, x ∈ ls.map Prod.fst → ∃ n, ls.lookup x = some n
  | (y, n) :: ls, h => by
    rw [look_cons]
    by_cases e : y = x
    · exact ⟨n, if_pos e⟩
    · rw [if_neg e]
      refine look_in ?_
      rcases List.mem_cons.mp h with q | q
      · exact absurd q.symm e
      · exact q
theorem day_val {x : Str} {ls : List (Str × Int)} (h : x ∈ ls.map Prod.fst) : valV (dayEnt ls) (Sum.inr x) = some (.int (dayOf ls x)) := by
  obtain ⟨n, e⟩ := look_in h
  rw [dayEnt_val]
  unfold dayOf
  rw [e]
  rfl
theorem look_mem {α : Type} {x : Str} {v : α} : ∀ {l : List (Str × α)}, (l.map Prod.fst).Nodup → (x, v) ∈ l → l.lookup x = some v
  | (y, u) :: l, ud, h => by
    rw [List.map_cons, List.nodup_cons] at ud
    rw [look_cons]
    rcases List.mem_cons.mp h with q | q
    · rw [if_pos (congrArg Prod.fst q).symm]
      exact congrArg some (congrArg Prod.snd q).symm
    · rw [if_neg fun e => ud.1 (by rw [e]; exact List.mem_map.mpr ⟨(x, v), q, rfl⟩)]
      exact look_mem ud.2 q

theorem nodup_inr : ∀ {l : List Str}, l.Nodup → (l.map (Sum.inr : Str → Key)).Nodup
  | [], _ => List.nodup_nil
  | x :: l, h => by
    rw [List.nodup_cons] at h
    rw [List.map_cons, List.nodup_cons]
    refine ⟨fun q => ?_, nodup_inr h.2⟩
    obtain ⟨y, hy, e⟩ := List.mem_map.mp q
    exact h.1 (by rw [← Sum.inr.inj e]; exact hy)

/-! ### spans -/
abbrev Span := Str × Int × Int
def begIn (sp : List Span) (x : Str) : Int := ((sp.lookup x).getD (0, 0)).1
def endIn (sp : List Span) (x : Str) : Int := ((sp.lookup x).getD (0, 0)).2
def maxL : List Int → Int
  | [] => 0
  | x :: xs => xs.foldl max x
theorem foldl_max : ∀ (xs : List Int) (x : Int), (∀ y ∈ x :: xs, y ≤ xs.foldl max x) ∧ xs.foldl max x ∈ x :: xs
  | [], x => ⟨fun y h => by rw [List.mem_singleton] at h; rw [h]; exact Int.le_refl _, .head _⟩
  | z :: xs, x => by
    obtain ⟨h1, h2⟩ := foldl_max xs (max x z)
    refine ⟨fun y h => ?_, ?_⟩
    · rw [List.foldl_cons]
      rcases List.mem_cons.mp h with q | q
      · have := h1 _ (.head _)
        rw [q]
        omega
      · rcases List.mem_cons.mp q with q | q
        · have := h1 _ (.head _)
          rw [q]
          omega
        · exact h1 y (.tail _ q)
    · rw [List.foldl_cons]
      rcases List.mem_cons.mp h2 with q | q
      · rw [q]
        by_cases c : x ≤ z
        · rw [Int.max_eq_right c]
          exact .tail _ (.head _)
        · rw [Int.max_eq_left (by omega)]
          exact .head _
      · exact .tail _ (.tail _ q)
theorem is_max {ns : List Int} {m : Int} (hm : m ∈ ns) (ub : ∀ y ∈ ns, y ≤ m) : m = maxL ns := by
  cases ns with
  | nil => cases hm
  | cons x xs =>
    obtain ⟨h1, h2⟩ := foldl_max xs x
    exact Int.le_antisymm (h1 m hm) (ub _ h2)
def startOf (sp : List Span) : Lay → Int
  | .now => 0
  | .behind xs => maxL (xs.map (endIn sp))
  | .beside x => begIn sp x
  | .split x _ => begIn sp x
def stopOf (sp : List Span) (dy : Str → Int) (r : Row) : Int :=
  match r.lay with
  | .split x k => max (startOf sp r.lay + 12 * r.need * dy r.name) (endIn sp x + k * r.need * dy r.name)
  | _ => startOf sp r.lay + 12 * r.need * dy r.name
def step (dy : Str → Int) (sp : List Span) (r : Row) : List Span := sp ++ [(r.name, startOf sp r.lay, stopOf sp dy r)]
def spansOf (dy : Str → Int) (rows : List Row) : List Span := rows.foldl (step dy) []
theorem spans_snoc (dy : Str → Int) (rows : List Row) (r : Row) : spansOf dy (rows ++ [r]) = step dy (spansOf dy rows) r := by
  unfold spansOf
  rw [List.foldl_append]
  rfl
theorem spans_fold (dy : Str → Int) : ∀ (rows : List Row) (sp : List Span), (rows.foldl (step dy) sp).map Prod.fst = sp.map Prod.fst ++ names rows
  | [], sp => by simp [names]
  | r :: rows, sp => by
    rw [List.foldl_cons, spans_fold dy rows]
    simp [step, names]
theorem spans_names (dy : Str → Int) (rows : List Row) : (spansOf dy rows).map Prod.fst = names rows := spans_fold dy rows []
def lastOf (sp : List Span) : Int := maxL (sp.map fun s => s.2.2)

def SpanAt (H : Hp) (kv : Key × V) (s : Span) : Prop := kv.1 = Sum.inr s.1 ∧ ∃ t, kv.2 = .ref t ∧ H t = some (.tup [.int s.2.1, .int s.2.2])
theorem SpanAt.mono {H H' : Hp} (m : SameT H H') {kv : Key × V} {s : Span} : SpanAt H kv s → SpanAt H' kv s
  | ⟨e, t, h1, h2⟩ => ⟨e, t, h1, m _ _ h2⟩
def SpansIn (H : Hp) (kvs : List (Key × V)) (sp : List Span) : Prop := Paired (SpanAt H) kvs sp
theorem SpansIn.mono {H H' : Hp} (m : SameT H H') {kvs : List (Key × V)} {sp : List Span} (h : SpansIn H kvs sp) : SpansIn H' kvs sp := pr_mono (fun _ _ q => SpanAt.mono m q) h
/-- a dict of spans -/
def SpansAt (H : Hp) (d : Addr) (sp : List Span) : Prop := ∃ kvs, H d = some (.dK kvs) ∧ SpansIn H kvs sp
theorem SpansAt.mono {H H' : Hp} (s : Same H H') {d : Addr} {sp : List Span} : SpansAt H d sp → SpansAt H' d sp
  | ⟨kvs, h1, h2⟩ => ⟨kvs, s _ _ h1, h2.mono (sameT s)⟩
theorem SpansIn.get {H : Hp} {kvs : List (Key × V)} {sp : List Span} (h : SpansIn H kvs sp) (ud : (sp.map Prod.fst).Nodup) {x : Str} (hx : x ∈ sp.map Prod.fst) : ∃ t, valV kvs (Sum.inr x) = some (.ref t) ∧ H t = some (.tup [.int (begIn sp x), .int (endIn sp x)]) := by
  obtain ⟨⟨y, b, e⟩, hm, rfl⟩ := List.mem_map.mp hx
  have l := look_mem ud hm
  have uk : (sp.map fun s => (Sum.inr s.1 : Key)).Nodup := by
    have e2 : (sp.map fun s => (Sum.inr s.1 : Key)) = (sp.map Prod.fst).map Sum.inr := by rw [List.map_map]; rfl
    rw [e2]
    exact nodup_inr ud
  obtain ⟨v, h1, t, h2, h3⟩ := dk_val (key := fun s : Span => (Sum.inr s.1 : Key)) (R := fun v (s : Span) => ∃ t, v = .ref t ∧ H t = some (.tup [.int s.2.1, .int s.2.2])) h hm uk
  refine ⟨t, by rw [h1, h2], ?_⟩
  unfold begIn endIn
  rw [l]
  exact h3
theorem acc_of {α : Type} {f : α → V} {acc : List V} {xs : List α} (h : Paired (fun v x => v = f x) acc xs) : acc = xs.map f := by
  induction h with
  | nil => rfl
  | cons e _ ih => rw [e, ih]; rfl
theorem same_unlock {H H2 : Hp} {d : Addr} {u : HO} {od : Obj} (hd : H d = some u) (s : Same (upd H d (.frz od u)) H2) : Same H (upd H2 d u) := fun b o e => by
  by_cases c : b = d
  · rw [c] at e ⊢
    rw [upd_same, ← hd]
    exact e
  · rw [upd_ne c]
    exact s b o (by rw [upd_ne c]; exact e)
theorem x_ckw {r : List V → List V → Hp → VK → Prop} {t tk : TA} {σ : L2.St} {H : Hp} {Q : VK} (h : t σ H fun vs H1 => tk σ H1 fun zs H2 => r vs zs H2 Q) : tCKw r t tk σ H Q := h
theorem SpansIn.fresh {H : Hp} {kvs : List (Key × V)} {sp : List Span} (h : SpansIn H kvs sp) {x : Str} (hx : x ∉ sp.map Prod.fst) : valV kvs (Sum.inr x) = none := by
  unfold SpansIn at h
  induction h with
  | nil => rfl
  | cons e _ ih =>
    rename_i kv s l1 l2 _
    rw [List.map_cons, List.mem_cons, not_or] at hx
    obtain ⟨k, v⟩ := kv
    refine (valV_neg (fun z => ?_)).trans (ih hx.2)
    exact hx.1 (Sum.inr.inj (z.symm.trans e.1))
def full (r : Row) : Row := { r with need := 12 }
theorem names_full (rows : List Row) : names (rows.map full) = names rows := by
  unfold names
  rw [List.map_map]
  rfl
theorem Named.full {rows : List Row} (n : Named rows) : Named (rows.map full) := by
  refine ⟨fun r hr => ?_, by rw [names_full]; exact n.unlike, fun i r hr x hx => ?_⟩
  · obtain ⟨r0, h0, rfl⟩ := List.mem_map.mp hr
    exact ⟨(n.ok r0 h0).name, (n.ok r0 h0).lay, (by decide : (0 : Int) ≤ 12), (by decide : (12 : Int) ≤ 12)⟩
  · rw [List.getElem?_map] at hr
    obtain ⟨r0, h0, rfl⟩ := Option.map_eq_some_iff.mp hr
    rw [names_full]
    exact n.back i r0 h0 x hx
/-- days of a name that is quashed: none -/
def serve (gone : List Str) (ds : List (Str × Int)) (x : Str) : Int := if x ∈ gone then 0 else dayOf ds x
def served (gone : List Str) (ds : List (Str × Int)) (xs : List Str) : List (Str × Int) := xs.map fun x => (x, serve gone ds x)
theorem served_fst (gone : List Str) (ds : List (Str × Int)) (xs : List Str) : (served gone ds xs).map Prod.fst = xs := by
  unfold served
  rw [List.map_map]
  exact List.map_id'' (fun _ => rfl) xs
theorem served_day (gone : List Str) (ds : List (Str × Int)) {x : Str} : ∀ {xs : List Str}, x ∈ xs → dayOf (served gone ds xs) x = serve gone ds x
  | y :: xs, h => by
    unfold dayOf served
    rw [List.map_cons, look_cons]
    by_cases e : y = x
    · rw [if_pos e, e]
      rfl
    · rw [if_neg e]
      refine served_day gone ds (xs := xs) ?_
      rcases List.mem_cons.mp h with q | q
      · exact absurd q.symm e
      · exact q
theorem stop_congr {dy dy' : Str → Int} {sp : List Span} {r : Row} (h : dy r.name = dy' r.name) : stopOf sp dy r = stopOf sp dy' r := by
  unfold stopOf
  rw [h]
theorem spans_congr {dy dy' : Str → Int} : ∀ {rows : List Row} {sp : List Span}, (∀ r ∈ rows, dy r.name = dy' r.name) → rows.foldl (step dy) sp = rows.foldl (step dy') sp
  | [], _, _ => rfl
  | r :: rows, sp, h => by
    rw [List.foldl_cons, List.foldl_cons]
    have e : step dy sp r = step dy' sp r := by
      unfold step
      rw [stop_congr (h r (.head _))]
    rw [e]
    exact spans_congr fun q hq => h q (.tail _ hq)
theorem x_spanPut {σ : L2.St} {H : Hp} {D : Ends} {p : Addr} {x : Str} {a b : Int} {sp : List Span} (h2 : σ[2]? = some (some (.ref p))) (h3 : σ[3]? = some (some (.str x))) (h6 : σ[6]? = some (some (.int a))) (h7 : σ[7]? = some (some (.int b)))
    (hs : SpansAt H p sp) (out : x ∉ sp.map Prod.fst) (few : sp.length < 1000) (fin : ∀ H', But p H H' → SpansAt H' p (sp ++ [(x, a, b)]) → D.nx σ H') :
    sDPut (tVar 2) (tVar 3) (tTup (tCons (tVar 6) (tCons (tVar 7) tNil))) D σ H := by
  obtain ⟨kvs, hd, hk⟩ := hs
  refine ⟨_, h6, _, h7, len_le (by simp), fun t ht => ⟨_, h2, _, h3, x_dput (same_new ht _ _ hd) ?_ ?_⟩⟩
  · have := pr_len hk
    rw [sizeLine_eq]
    omega
  · have st := SameT.trans (SameT.new (o := .tup [.int a, .int b]) ht) (SameT.put (o := .dK (putK kvs (Sum.inr x) (.ref t))) (same_new ht _ _ hd) (fun _ z => nomatch z))
    refine fin _ ((but_new ht).trans but_at) ⟨_, upd_same, ?_⟩
    rw [putK_new _ (hk.fresh out)] at st ⊢
    exact Paired.snoc (hk.mono st) ⟨rfl, t, rfl, by
      rw [upd_ne (fun z => by rw [z, hd] at ht; cases ht)]
      exact upd_same⟩
theorem acc_dict {α : Type} {key : α → Key} {f : α → V} {acc : List (Key × V)} {xs : List α} (h : Paired (fun kv x => kv.1 = key x ∧ kv.2 = f x) acc xs) : acc = xs.map fun x => (key x, f x) := by
  induction h with
  | nil => rfl
  | cons e _ ih =>
    rename_i a b _ _ _
    rw [ih, show a = (key b, f b) from Prod.ext e.1 e.2]
    rfl
theorem full_spans (gone : List Str) (ds : List (Str × Int)) (rows : List Row) : spansOf (dayOf (served gone ds (names rows))) (rows.map full) = spansOf (serve gone ds) (rows.map full) := by
  refine spans_congr fun r hr => ?_
  obtain ⟨r0, h0, rfl⟩ := List.mem_map.mp hr
  exact served_day gone ds (x := (full r0).name) (List.mem_map.mpr ⟨r0, h0, rfl⟩)
theorem least_spans (gone : List Str) (ds : List (Str × Int)) (rows : List Row) : spansOf (dayOf (served gone ds (names rows))) rows = spansOf (serve gone ds) rows :=
  spans_congr fun r hr => served_day gone ds (List.mem_map_of_mem hr)
theorem spans_len (dy : Str → Int) (rows : List Row) : (spansOf dy rows).length = rows.length := by
  have e := congrArg List.length (spans_names dy rows)
  unfold names at e
  rw [List.length_map, List.length_map] at e
  exact e
/-- a dict of lengths that may be asked -/
structure LenOk (H : Hp) (d : Addr) (ds : List (Str × Int)) (rows : List Row) : Prop where
  here : H d = some (.dK (dayEnt ds))
  few : ds.length < 1000
  ok : ∀ q ∈ ds, NameOk q.1 ∧ 0 ≤ q.2
  all : ∀ x ∈ names rows, x ∈ ds.map Prod.fst
theorem LenOk.mono {H H' : Hp} {d : Addr} {ds : List (Str × Int)} {rows : List Row} (s : Same H H') (l : LenOk H d ds rows) : LenOk H' d ds rows := ⟨s _ _ l.here, l.few, l.ok, l.all⟩
end Tm
set_option maxRecDepth 100000
set_option maxHeartbeats 4000000
/-! list(d.values()); lists of ints; appending. -/
namespace Tm
open PySem PySem.Spec PyProof.Rows L2
def tListVals (td : TE) : TE := fun σ H Q => td σ H fun x H1 => ∃ a kvs, x = V.ref a ∧ H1 a = some (.dK kvs) ∧ ∀ l, H1 l = none → Q (.ref l) (upd H1 l (.lst (kvs.map Prod.snd)))
section
variable {X : Cx} {o : Expr} {p pos apos mpos : Pos} {td : TE}
theorem pe_listVals (hc : X.calm = true) (hg : Gl X "list") (hm : X.mg "list" = none) (hb : bootBuiltins "list" = some (.type "list")) (hd : PE X o td) (hbase : attributeBase o "values" X.env (eval o X.env) = eval o X.env := by rfl) (hline : (apos.endLine == mpos.line) = true := by rfl)
    (na : starEach [Expr.Call (.Attribute o "values" apos) [] [] mpos] X.env = (false, eval (Expr.Call (.Attribute o "values" apos) [] [] mpos) X.env) :: starEach [] X.env := by rfl) :
    PE X (.Call (.Name "list" p) [.Call (.Attribute o "values" apos) [] [] mpos] [] pos) (tListVals td) := by
  refine ⟨fun pins s σ H Q I h => ?_⟩
  refine Call_ (ld_blt I hg hm hb (PyProof.Rows.callWith_type1 (PyProof.Rows.args_cons (wpAny_Call_method0_late hbase hline (thn (hd.run pins s σ H _ I h) fun v s1 ⟨x, H1, I1, r1, a, kvs, ex, ha, q⟩ => ?_)) na) na))
  subst ex
  obtain rfl : v = Value.ref a := r1
  obtain ⟨_, hsys, vs, rel, dof⟩ := dk_of I1.hok ha
  obtain ⟨ep, dat⟩ := dof.dictAt
  obtain ⟨ob, es, ho, ex, _⟩ := id dat
  refine ⟨"dict", "dict.values", PySem.F.plainAttrs_dict, PySem.F.slot_dict_values, PySem.F.type_dict_values, ⟨ob, ho, ex.1⟩, fun b e => ?_, Calls.callWith_builtin rfl (PySem.evalArgs_none ?_)⟩
  · cases e
    exact ⟨ob, ho, ex.2.1⟩
  refine call_meetsIn PySem.F.slot_dict_values ⟨ob, ho, ex.1⟩ PySem.F.entry_dict_values (PySem.F.args_dict_values_1 _) (meets_dict_values (mixKind X.prog X.w) a hsys) ⟨⟨vs, dof⟩, ?_⟩
  refine PyProof.Rows.args_nil ?_
  have up : ∀ b u, s1.heap.get? b = some u → (s1.heap.push { cls := .type "dict_values", data := .fields #[.ref a] }).get? b = some u := fun b u e => Heap.get?_push_of_some _ e
  have I2 : Inv X pins σ H1 { s1 with heap := s1.heap.push { cls := .type "dict_values", data := .fields #[.ref a] } } := I1.kept (t' := s1.toks) up
  have many : kvs.length = vs.length := Paired.length rel
  obtain ⟨hz, _⟩ := dk_of I1.hok ha
  refine PySem.W.kdl_call (PySem.W.kdl_values (knd := mixKind X.prog X.w) (kvs := vs) (ep := ep)) (I1.ok.hd hc) ⟨⟨_, Heap.get?_push_size _ rfl, rfl, rfl⟩, dat.keep up⟩ (by rw [← many]; exact hz) fun h' tk acc c kept at_ its => ?_
  have vals : Vals (kvs.map Prod.snd) acc.toList := by
    refine vals_by (by have e : acc.size = vs.length := its.1; rw [List.length_map, many, ← e]; exact Array.length_toList.symm) fun i x u hx hu => ?_
    obtain ⟨k, hk⟩ := its.2 i u (by rw [← Array.getElem?_toList]; exact hu)
    obtain ⟨y, h1, h2⟩ := KV.at' rel hk
    rw [List.getElem?_map, h1] at hx
    cases hx
    exact h2
  exact ⟨.ref _, upd H1 _ (.lst (kvs.map Prod.snd)), I2.laid (t' := tk) kept (Nat.le_refl _) ⟨by rw [List.length_map]; exact hz, acc.toList, c, vals, by rw [Array.toArray_toList]; exact at_⟩, rfl, q _ (I2.hok.fresh (Nat.le_refl _))⟩
end
theorem hu64 {A : Around} {k : Nat} (hr : Room k A) : A.units + 64 < cLine := hr.units
theorem hu0 {n : Nat} (h : n + 1 < cLine) : n < cLine := Nat.lt_of_succ_lt h
section
variable {K : PySem.W.Frag} {H : Hp} {Q : VK} {p l : Addr} {z : Int} {ns : List Int}
theorem inV_int {z : Int} : ∀ {ys : List Int}, inV (.int z) (ys.map V.int) = decide (z ∈ ys)
  | [] => rfl
  | y :: ys => by
    have ih := inV_int (z := z) (ys := ys)
    unfold inV at ih ⊢
    rw [List.map_cons, List.any_cons, ih]
    have e : eqV (.int y) (.int z) = decide (y = z) := by
      show (y == z) = _
      by_cases q : y = z
      · rw [q, decide_eq_true rfl]
        exact beq_self_eq_true z
      · rw [decide_eq_false q]
        exact beq_eq_false_iff_ne.mpr q
    rw [e, ← Bool.decide_or]
    exact decide_eq_decide.mpr (by rw [List.mem_cons, eq_comm (a := y)])
theorem flat_int (ys : List Int) : (ys.map V.int).all flatV = true := by
  rw [List.all_map]
  exact List.all_eq_true.mpr fun _ _ => rfl
theorem x_ninLI (hs : SqL K H p (ns.map V.int)) (h : Q (.bl (!decide (z ∈ ns))) H) : rIn K true (.int z) (.ref p) H Q := ⟨p, _, rfl, .inl hs, rfl, flat_int ns, by
  rw [inV_int]
  exact h⟩
theorem x_append {xs : List V} {y : V} (e : H l = some (.lst xs)) (few : xs.length < 10000) (h : Q .non (upd H l (.lst (xs ++ [y])))) : rAppend (.ref l) [y] H Q := ⟨l, xs, y, rfl, rfl, e, by rw [sizeLine_eq]; omega, h⟩
theorem x_bm {T : String} {r : V → List V → Hp → VK → Prop} {to : TE} {t : TA} {σ : L2.St} (h : to σ H fun x H1 => tyV K T x H1 ∧ t σ H1 fun xs H2 => r x xs H2 Q) : tBM K T r to t σ H Q := h
theorem x_listVals {td : TE} {σ : L2.St} (h : td σ H fun x H1 => ∃ a kvs, x = V.ref a ∧ H1 a = some (.dK kvs) ∧ ∀ l, H1 l = none → Q (.ref l) (upd H1 l (.lst (kvs.map Prod.snd)))) : tListVals td σ H Q := h
theorem x_cat {l b : Addr} {xs zs : List V} (h1 : H l = some (.lst xs)) (h2 : H b = some (.lst zs)) (few : xs.length + zs.length ≤ 10000) (h : ∀ p, H p = none → Q (.ref p) (upd H p (.lst (xs ++ zs)))) : rCat (.ref l) (.ref b) H Q := ⟨l, b, xs, zs, rfl, rfl, h1, h2, len_le few, h⟩
end
theorem merge_new : ∀ {kvs acc : List (Key × V)}, ((acc ++ kvs).map Prod.fst).Nodup → mergeK acc kvs = acc ++ kvs
  | [], acc, _ => by simp [mergeK]
  | (k, v) :: kvs, acc, h => by
    have out : valV acc k = none := by
      cases e : valV acc k with
      | none => rfl
      | some u =>
        exfalso
        have hk := valV_in e
        rw [List.map_append, List.nodup_append] at h
        exact h.2.2 k hk k (by simp) rfl
    have ih := merge_new (kvs := kvs) (acc := acc ++ [(k, v)]) (by rw [List.append_assoc]; exact h)
    rw [List.append_assoc] at ih
    unfold mergeK at ih ⊢
    rw [List.foldl_cons, putK_new _ out]
    exact ih

theorem merge_days {ds : List (Str × Int)} (ud : (ds.map Prod.fst).Nodup) : mergeK [] (dayEnt ds) = dayEnt ds := by
  refine (merge_new ?_).trans (List.nil_append _)
  rw [List.nil_append]
  have e : (dayEnt ds).map Prod.fst = (ds.map Prod.fst).map Sum.inr := by
    unfold dayEnt
    rw [List.map_map, List.map_map]
    rfl
  rw [e]
  exact nodup_inr ud
end Tm
set_option maxRecDepth 100000
set_option maxHeartbeats 4000000
/-! Draws: the tape turns, all else stands. -/
namespace Tm
open PySem PySem.Spec PyProof.Rows L2
/-- a tape at d -/
def Tape (H : Hp) (d : Addr) : Prop := ∃ D M, H d = some (tapeO D M) ∧ Tp D M
/-- only the tape at d was turned -/
structure Turn (d : Addr) (H H' : Hp) : Prop where
  but : But d H H'
  tape : Tape H' d
theorem Turn.trans {d : Addr} {H H1 H2 : Hp} (a : Turn d H H1) (b : Turn d H1 H2) : Turn d H H2 := ⟨a.but.trans b.but, b.tape⟩
theorem Tape.same {d : Addr} {H H' : Hp} (s : Same H H') : Tape H d → Tape H' d
  | ⟨D, M, h, t⟩ => ⟨D, M, s _ _ h, t⟩
theorem turn_same {d : Addr} {H H' : Hp} (t : Tape H d) (s : Same H H') : Turn d H H' := ⟨but_same s, t.same s⟩
theorem turn_refl {d : Addr} {H : Hp} (t : Tape H d) : Turn d H H := ⟨fun _ _ _ e => e, t⟩
theorem Turn.then {d : Addr} {H H1 H2 : Hp} (t : Turn d H H1) (s : Same H1 H2) : Turn d H H2 := ⟨t.but.trans (but_same s), t.tape.same s⟩
theorem turn_put {d : Addr} {H : Hp} {D M : Int} (tp : Tp D M) : Turn d H (upd H d (tapeO D M)) := ⟨but_at, D, M, upd_same, tp⟩
theorem Turn.sameT {d : Addr} {H H' : Hp} (h : Tape H d) (t : Turn d H H') : SameT H H' := fun b xs e => by
  obtain ⟨D, M, hd, _⟩ := h
  exact t.but b _ (fun z => by rw [z, hd] at e; cases e) e
theorem Turn.lst {d a : Addr} {H H' : Hp} {xs : List V} (h : Tape H d) (t : Turn d H H') (e : H a = some (.lst xs)) : H' a = some (.lst xs) := by
  obtain ⟨D, M, hd, _⟩ := h
  exact t.but a _ (fun z => by rw [z, hd] at e; cases e) e
theorem Turn.keep {d a : Addr} {o : HO} {H H' : Hp} (t : Turn d H H') (n : a ≠ d) (e : H a = some o) : H' a = some o := t.but a _ n e
/-- an object that was new to H may change -/
theorem Turn.put {d p : Addr} {o : HO} {H H1 : Hp} (t : Turn d H H1) (h : H p = none) (n : p ≠ d) : Turn d H (upd H1 p o) := by
  obtain ⟨D, M, hd, tp⟩ := t.tape
  exact ⟨fun b u c e => by rw [upd_ne (ne_of_none e h)]; exact t.but b u c e, D, M, by rw [upd_ne (Ne.symm n)]; exact hd, tp⟩
theorem tape_ne {d p : Addr} {H : Hp} (t : Tape H d) (h : H p = none) : p ≠ d := fun z => by
  obtain ⟨D, M, hd, _⟩ := t
  rw [z, hd] at h
  cases h
/-- what may be compared with [] -/
structure Shape (K : PySem.W.Frag) (R : Hp → V → Prop) : Prop where
  mono : ∀ H H' v, SameT H H' → R H v → R H' v
  data : ∀ H v, R H v → ∃ dt, Dp K H v dt ∧ dt.canLay0 = true ∧ dt.depth ≤ 60
theorem Shape.all {K : PySem.W.Frag} {R : Hp → V → Prop} (S : Shape K R) {H : Hp} : ∀ {xs : List V}, (∀ v ∈ xs, R H v) → ∃ ds, DpAll K H xs ds ∧ PyData.canLayAll0 ds = true ∧ PyData.depthAll ds ≤ 60 ∧ ds.length = xs.length
  | [], _ => ⟨[], .nil, rfl, Nat.zero_le _, rfl⟩
  | v :: xs, h => by
    obtain ⟨dt, h1, h2, h3⟩ := S.data H v (h v (.head _))
    obtain ⟨ds, k1, k2, k3, k4⟩ := S.all (xs := xs) fun u hu => h u (.tail _ hu)
    refine ⟨dt :: ds, .cons h1 k1, ?_, ?_, congrArg Nat.succ k4⟩
    · show (dt.canLay0 && PyData.canLayAll0 ds) = true
      rw [h2, k2]
      rfl
    · show max dt.depth (PyData.depthAll ds) ≤ 60
      omega
theorem eqv_nil : ∀ {ds : List PyData}, PyData.eqv (.list ds) (.list []) = decide (ds = [])
  | [] => rfl
  | _ :: _ => rfl
section
variable {K : PySem.W.Frag} {H : Hp} {Q : VK} {a b : Addr} {xs : List V} {R : Hp → V → Prop}
/-- xs != [] -/
theorem x_neNil (S : Shape K R) (ha : SqL K H a xs) (hb : SqL K H b []) (hR : ∀ v ∈ xs, R H v) (h : Q (.bl (!decide (xs = []))) H) : rNeD K (.ref a) (.ref b) H Q := by
  obtain ⟨ds, k1, k2, k3, k4⟩ := S.all hR
  have e : decide (ds = []) = decide (xs = []) := by
    cases ds with
    | nil =>
      rw [List.length_nil] at k4
      rw [List.eq_nil_of_length_eq_zero k4.symm, decide_eq_true rfl, decide_eq_true rfl]
    | cons d ds =>
      cases xs with
      | nil => cases k4
      | cons v xs => rfl
  refine ⟨.list ds, .list [], .lst ha k1, .lst hb .nil, ?_, rfl, ?_⟩
  · show (PyData.canLayAll0 ds && decide (PyData.depthAll ds + 1 ≤ 64)) = true
    rw [k2, decide_eq_true (by omega)]
    rfl
  · rw [eqv_nil, e]
    exact h
end
theorem name_strOk {z : Str} (h : NameOk z) : PyData.strOk z = true := by
  unfold PyData.strOk
  rw [Array.all_eq_true]
  intro i hi
  have := h.2.2 z.cps[i] (by simp)
  simp only [decide_eq_true_eq]
  omega
def StrR (_ : Hp) (v : V) : Prop := ∃ z : Str, v = .str z ∧ NameOk z
theorem shape_str {K : PySem.W.Frag} : Shape K StrR := ⟨fun _ _ _ _ h => h, fun _ v ⟨z, e, h⟩ => by
  subst e
  exact ⟨.str z, .str z, name_strOk h, Nat.zero_le _⟩⟩
def lenAt (H : Hp) (l : Addr) : Nat := match H l with
  | some (.lst xs) => xs.length
  | _ => 0
theorem lenAt_of {H : Hp} {l : Addr} {xs : List V} (h : H l = some (.lst xs)) : lenAt H l = xs.length := by
  unfold lenAt
  rw [h]
theorem seqIx {i : Int} {n : Nat} (h0 : 0 ≤ i) (h1 : i < n) : seqIndex? i n = some i.toNat := by
  unfold seqIndex?
  rw [if_neg (by omega : ¬ i < 0)]
  simp [h0, h1]
theorem erase_perm {α : Type} : ∀ {ls : List α} {k : Nat} {y : α}, ls[k]? = some y → (y :: ls.eraseIdx k).Perm ls
  | [], k, y, h => by simp at h
  | x :: ls, 0, y, h => by
    simp at h
    subst h
    exact .refl _
  | x :: ls, k + 1, y, h => by
    rw [List.eraseIdx_cons_succ]
    exact (List.Perm.swap x y _).trans ((erase_perm (by simpa using h)).cons x)
theorem perm_move {α : Type} {ls fs xs : List α} {k : Nat} {y : α} (p : (fs ++ ls).Perm xs) (h : ls[k]? = some y) : ((fs ++ [y]) ++ ls.eraseIdx k).Perm xs := by
  refine List.Perm.trans ?_ p
  rw [List.append_assoc]
  refine List.Perm.append_left fs ?_
  exact erase_perm h
theorem cut_take {xs : List V} {k : Int} (h : 0 ≤ k) : cutV xs none (some k) = xs.take k.toNat := by
  unfold cutV
  rw [HT.sIx_none]
  have e : HT.sIx xs.length xs.length (some k) = min k.toNat xs.length := by
    show (if k < 0 then (k + (xs.length : Int)).toNat else min k.toNat xs.length) = _
    rw [if_neg (by omega)]
  rw [e, List.drop_zero, Nat.sub_zero]
  by_cases c : k.toNat ≤ xs.length
  · rw [Nat.min_eq_left c]
  · rw [Nat.min_eq_right (by omega), List.take_length, List.take_of_length_le (by omega)]
theorem perm_strs {ys : List V} {ws : List Str} (p : ys.Perm (ws.map V.str)) : ∃ zs : List Str, ys = zs.map V.str ∧ zs.Perm ws := by
  have h : ∀ {l : List V}, (∀ v ∈ l, ∃ z, v = V.str z) → ∃ zs : List Str, l = zs.map V.str := by
    intro l
    induction l with
    | nil => exact fun _ => ⟨[], rfl⟩
    | cons v l ih =>
      intro hh
      obtain ⟨z, rfl⟩ := hh v (.head _)
      obtain ⟨zs, rfl⟩ := ih fun u hu => hh u (.tail _ hu)
      exact ⟨z :: zs, rfl⟩
  obtain ⟨zs, e⟩ := h (l := ys) fun v hv => by
    obtain ⟨z, _, e⟩ := List.mem_map.mp (p.mem_iff.mp hv)
    exact ⟨z, e.symm⟩
  refine ⟨zs, e, ?_⟩
  rw [e] at p
  have inj : ∀ {l : List Str}, (l.map V.str).map (fun v => match v with | .str z => z | _ => Str.empty) = l := by
    intro l
    rw [List.map_map]
    exact List.map_id'' (fun _ => rfl) l
  have := p.map (fun v => match v with | V.str z => z | _ => Str.empty)
  rw [inj, inj] at this
  exact this
def nameB' (z : Str) : Bool := decide (1 ≤ z.length) && decide (z.length ≤ 8) && z.cps.toList.all fun c => decide (97 ≤ c) && decide (c ≤ 122)
theorem named_nil : Named [] := ⟨fun _ h => (nomatch h), List.nodup_nil, fun i r h => by simp at h⟩
theorem names_snoc (rows : List Row) (r : Row) : names (rows ++ [r]) = names rows ++ [r.name] := by
  unfold names
  rw [List.map_append]
  rfl
theorem named_snoc {rows : List Row} {r : Row} (n : Named rows) (ok : r.Ok) (out : r.name ∉ names rows) (anc : ∀ x ∈ r.lay.anchors, x ∈ names rows) : Named (rows ++ [r]) := by
  have ln : (names rows).length = rows.length := List.length_map ..
  refine ⟨fun q hq => ?_, ?_, fun i q hq x hx => ?_⟩
  · rcases List.mem_append.mp hq with h | h
    · exact n.ok q h
    · rw [List.mem_singleton.mp h]
      exact ok
  · rw [names_snoc, List.nodup_append]
    exact ⟨n.unlike, by simp, fun a ha b hb e => out (by rw [List.mem_singleton] at hb; rw [← hb, ← e]; exact ha)⟩
  · rw [names_snoc]
    rcases Nat.lt_or_ge i rows.length with lt | ge
    · rw [List.getElem?_append_left lt] at hq
      rw [List.take_append_of_le_length (by rw [ln]; omega)]
      exact n.back i q hq x hx
    · rw [List.getElem?_append_right ge] at hq
      have e0 : i - rows.length = 0 := by
        have := (List.getElem?_eq_some_iff.mp hq).1
        simp at this
        omega
      rw [e0] at hq
      obtain rfl : r = q := by simpa using hq
      rw [List.take_append, List.take_of_length_le (by rw [ln]; omega)]
      exact List.mem_append.mpr (.inl (anc x hx))
def ten : List Str := ["a", "b", "least", "split", "now", "beside", "behind", "quashed", "longname", "fryxjkmv"]
theorem ten_ok : ∀ x ∈ ten, NameOk x := by
  have e : (ten.all nameB') = true := by decide +kernel
  intro x hx
  have := (List.all_eq_true.mp e) x hx
  unfold nameB' at this
  simp only [Bool.and_eq_true, decide_eq_true_eq, List.all_eq_true] at this
  exact ⟨this.1.1, this.1.2, fun c hc => this.2 c hc⟩
theorem ten_ud : ten.Nodup := by decide +kernel
theorem ten_len : ten.length = 10 := by decide +kernel
theorem paired_perm {α β : Type} {F : α → β → Prop} {ws ys : List α} (p : ys.Perm ws) : ∀ {rows : List β}, Paired F ws rows → ∃ rs, rs.Perm rows ∧ Paired F ys rs := by
  induction p with
  | nil => exact fun h => by cases h; exact ⟨[], .refl _, .nil⟩
  | cons x _ ih =>
    intro rows h
    cases h with
    | cons f t =>
      obtain ⟨rs, h1, h2⟩ := ih t
      exact ⟨_ :: rs, h1.cons _, .cons f h2⟩
  | swap x y l =>
    intro rows h
    cases h with
    | cons f t =>
      cases t with
      | cons g u => exact ⟨_, List.Perm.swap _ _ _, .cons g (.cons f u)⟩
  | trans _ _ ih1 ih2 =>
    intro rows h
    obtain ⟨r1, h1, h2⟩ := ih2 h
    obtain ⟨r2, h3, h4⟩ := ih1 h2
    exact ⟨r2, h3.trans h1, h4⟩
def layData : Lay → PyData
  | .now => .tuple [.str "now"]
  | .behind xs => .tuple [.str "behind", .tuple (xs.map PyData.str)]
  | .beside x => .tuple [.str "beside", .str x]
  | .split x k => .tuple [.str "split", .str x, .int k]
def rowData (r : Row) : PyData := .tuple [.str r.name, layData r.lay, .int r.need]
theorem dp_strs {K : PySem.W.Frag} {H : Hp} : ∀ (xs : List Str), DpAll K H (xs.map V.str) (xs.map PyData.str)
  | [] => .nil
  | x :: xs => .cons (.str x) (dp_strs xs)
theorem dp_lay {K : PySem.W.Frag} {H : Hp} : ∀ {v : V} {l : Lay}, LayAt H v l → Dp K H v (layData l)
  | _, .now, ⟨a, e, h⟩ => by subst e; exact .tup (sqT h) (.cons (.str _) .nil)
  | _, .behind xs, ⟨a, b, e, h, g⟩ => by subst e; exact .tup (sqT h) (.cons (.str _) (.cons (.tup (sqT g) (dp_strs xs)) .nil))
  | _, .beside x, ⟨a, e, h⟩ => by subst e; exact .tup (sqT h) (.cons (.str _) (.cons (.str _) .nil))
  | _, .split x k, ⟨a, e, h⟩ => by subst e; exact .tup (sqT h) (.cons (.str _) (.cons (.str _) (.cons (.int _) .nil)))
theorem dp_row {K : PySem.W.Frag} {H : Hp} {v : V} {r : Row} : RowAt H v r → Dp K H v (rowData r)
  | ⟨a, l, e, h, g⟩ => by subst e; exact .tup (sqT h) (.cons (.str _) (.cons (dp_lay g) (.cons (.int _) .nil)))
theorem can_strs : ∀ {xs : List Str}, (∀ x ∈ xs, NameOk x) → PyData.canLayAll0 (xs.map PyData.str) = true
  | [], _ => rfl
  | x :: xs, h => by
    show (PyData.strOk x && PyData.canLayAll0 (xs.map PyData.str)) = true
    rw [name_strOk (h x (.head _)), can_strs fun y hy => h y (.tail _ hy)]
    rfl
theorem can_lay : ∀ {l : Lay}, l.Ok → (layData l).canLay0 = true
  | .now, _ => by decide +kernel
  | .behind xs, h => by
    have e1 : PyData.strOk ("behind" : Str) = true := by decide +kernel
    show (PyData.strOk ("behind" : Str) && (PyData.canLayAll0 (xs.map PyData.str) && true)) = true
    rw [e1, can_strs h.2.2.2]
    rfl
  | .beside x, h => by
    have e1 : PyData.strOk ("beside" : Str) = true := by decide +kernel
    show (PyData.strOk ("beside" : Str) && (PyData.strOk x && true)) = true
    rw [e1, name_strOk h]
    rfl
  | .split x k, h => by
    have e1 : PyData.strOk ("split" : Str) = true := by decide +kernel
    show (PyData.strOk ("split" : Str) && (PyData.strOk x && (true && true))) = true
    rw [e1, name_strOk h.1]
    rfl
theorem depth_strs : ∀ (xs : List Str), PyData.depthAll (xs.map PyData.str) = 0
  | [] => rfl
  | x :: xs => by
    show max 0 (PyData.depthAll (xs.map PyData.str)) = 0
    rw [depth_strs xs]
    rfl
theorem depth_lay : ∀ (l : Lay), (layData l).depth ≤ 2
  | .now => by decide +kernel
  | .behind xs => by
    show max 0 (max (PyData.depthAll (xs.map PyData.str) + 1) 0) + 1 ≤ 2
    rw [depth_strs]
    decide
  | .beside x => by
    show max 0 (max 0 0) + 1 ≤ 2
    decide
  | .split x k => by
    show max 0 (max 0 (max 0 0)) + 1 ≤ 2
    decide
theorem can_row {r : Row} (h : r.Ok) : (rowData r).canLay0 = true := by
  show (PyData.strOk r.name && ((layData r.lay).canLay0 && (true && true))) = true
  rw [name_strOk h.name, can_lay h.lay]
  rfl
theorem depth_row (r : Row) : (rowData r).depth ≤ 3 := by
  have := depth_lay r.lay
  show max 0 (max (layData r.lay).depth (max 0 0)) + 1 ≤ 3
  omega
def RowR (H : Hp) (v : V) : Prop := ∃ r : Row, RowAt H v r ∧ r.Ok
theorem shape_row {K : PySem.W.Frag} : Shape K RowR := ⟨fun _ _ _ m ⟨r, h, o⟩ => ⟨r, RowAt.mono m h, o⟩, fun _ _ ⟨r, h, o⟩ => ⟨rowData r, dp_row h, can_row o, by have := depth_row r; omega⟩⟩
theorem pairs_ps {K : PySem.W.Frag} {H : Hp} {acc : List V} {qs : List (Str × Int)} (h : Paired (fun v (q : Str × Int) => ∃ t, v = V.ref t ∧ H t = some (.tup [.str q.1, .int q.2])) acc qs) :
    ∃ ps : List Addr, acc = ps.map V.ref ∧ Paired (fun p (kv : Key × V) => SqT K H p [kV kv.1, kv.2]) ps (dayEnt qs) := by
  induction h with
  | nil => exact ⟨[], rfl, .nil⟩
  | cons e _ ih =>
    obtain ⟨t, e1, e2⟩ := e
    obtain ⟨ps, e3, e4⟩ := ih
    exact ⟨t :: ps, by rw [e1, e3]; rfl, .cons (sqT e2) e4⟩
theorem turn_none {d p : Addr} {H H' : Hp} (t : Turn d H H') (h : H' p = none) : H p = none := by
  cases e : H p with
  | none => rfl
  | some o =>
    by_cases c : p = d
    · obtain ⟨D9, M9, h9, _⟩ := t.tape
      rw [c, h9] at h
      cases h
    · rw [t.but p o c e] at h
      cases h
theorem zz_ok : NameOk ("zz" : Str) := by
  have e : nameB' ("zz" : Str) = true := by decide +kernel
  unfold nameB' at e
  simp only [Bool.and_eq_true, decide_eq_true_eq, List.all_eq_true] at e
  exact ⟨e.1.1, e.1.2, fun c hc => e.2 c hc⟩
theorem zz_out : ("zz" : Str) ∉ ten := by decide +kernel
theorem dayEnt_put {ds : List (Str × Int)} {x : Str} {n : Int} (h : x ∉ ds.map Prod.fst) : putK (dayEnt ds) (Sum.inr x) (.int n) = dayEnt (ds ++ [(x, n)]) := by
  have e : valV (dayEnt ds) (Sum.inr x) = none := by
    rw [dayEnt_val]
    cases q : ds.lookup x with
    | none => rfl
    | some v =>
      exfalso
      have : ∀ {l : List (Str × Int)}, l.lookup x = some v → x ∈ l.map Prod.fst := by
        intro l
        induction l with
        | nil => intro z; cases z
        | cons p l ih =>
          obtain ⟨y, u⟩ := p
          rw [look_cons]
          intro z
          by_cases c : y = x
          · rw [← c]
            exact .head _
          · rw [if_neg c] at z
            exact .tail _ (ih z)
      exact h (this q)
  rw [putK_new _ e]
  unfold dayEnt
  rw [List.map_append]
  rfl
theorem eqv_strs : ∀ (xs : List Str), PyData.eqvAll (xs.map PyData.str) (xs.map PyData.str) = true
  | [] => rfl
  | x :: xs => by
    show ((x == x) && PyData.eqvAll (xs.map PyData.str) (xs.map PyData.str)) = true
    rw [eqv_strs xs, beq_self_eq_true]
    rfl
theorem eqv_lay : ∀ (l : Lay), PyData.eqv (layData l) (layData l) = true
  | .now => by decide +kernel
  | .behind xs => by
    show ((("behind" : Str) == "behind") && (PyData.eqvAll (xs.map PyData.str) (xs.map PyData.str) && true)) = true
    rw [eqv_strs, beq_self_eq_true]
    rfl
  | .beside x => by
    show ((("beside" : Str) == "beside") && ((x == x) && true)) = true
    rw [beq_self_eq_true, beq_self_eq_true]
    rfl
  | .split x k => by
    show ((("split" : Str) == "split") && ((x == x) && ((k == k) && true))) = true
    rw [beq_self_eq_true, beq_self_eq_true, beq_self_eq_true]
    rfl
theorem eqv_row (r : Row) : PyData.eqv (rowData r) (rowData r) = true := by
  show ((r.name == r.name) && (PyData.eqv (layData r.lay) (layData r.lay) && ((r.need == r.need) && true))) = true
  rw [eqv_lay, beq_self_eq_true, beq_self_eq_true]
  rfl
theorem eqv_rows : ∀ (rows : List Row), PyData.eqvAll (rows.map rowData) (rows.map rowData) = true
  | [] => rfl
  | r :: rows => by
    show (PyData.eqv (rowData r) (rowData r) && PyData.eqvAll (rows.map rowData) (rows.map rowData)) = true
    rw [eqv_row, eqv_rows rows]
    rfl
theorem dp_rows {K : PySem.W.Frag} {H : Hp} {vs : List V} {rows : List Row} (h : RowsAt H vs rows) : DpAll K H vs (rows.map rowData) := by
  unfold RowsAt at h
  induction h with
  | nil => exact .nil
  | cons f _ ih => exact .cons (dp_row f) ih
theorem can_rows : ∀ {rows : List Row}, (∀ r ∈ rows, r.Ok) → PyData.canLayAll0 (rows.map rowData) = true ∧ PyData.depthAll (rows.map rowData) ≤ 3
  | [], _ => ⟨rfl, Nat.zero_le _⟩
  | r :: rows, h => by
    obtain ⟨h1, h2⟩ := can_rows (rows := rows) fun q hq => h q (.tail _ hq)
    have h3 := depth_row r
    refine ⟨?_, ?_⟩
    · show ((rowData r).canLay0 && PyData.canLayAll0 (rows.map rowData)) = true
      rw [can_row (h r (.head _)), h1]
      rfl
    · show max (rowData r).depth (PyData.depthAll (rows.map rowData)) ≤ 3
      omega
section
variable {K : PySem.W.Frag} {H : Hp} {Q : VK} {a b : Addr}
theorem x_eqRows {vs us : List V} {rows : List Row} (ha : SqL K H a vs) (hb : SqL K H b us) (hv : RowsAt H vs rows) (hu : RowsAt H us rows) (ok : ∀ r ∈ rows, r.Ok) (h : Q (.bl true) H) : rEqD K (.ref a) (.ref b) H Q := by
  obtain ⟨c1, c2⟩ := can_rows ok
  have sh : SeqAt.shaped (.list (rows.map rowData)) = true := by
    show (PyData.canLayAll0 (rows.map rowData) && decide (PyData.depthAll (rows.map rowData) + 1 ≤ 64)) = true
    rw [c1, decide_eq_true (by omega)]
    rfl
  refine ⟨_, _, .lst ha (dp_rows hv), .lst hb (dp_rows hu), sh, sh, ?_⟩
  rw [show PyData.eqv (.list (rows.map rowData)) (.list (rows.map rowData)) = true from eqv_rows rows]
  exact h
theorem x_eqStrs {xs : List Str} (ha : SqT K H a (xs.map V.str)) (hb : SqT K H b (xs.map V.str)) (ok : ∀ x ∈ xs, NameOk x) (h : Q (.bl true) H) : rEqD K (.ref a) (.ref b) H Q := by
  have sh : SeqAt.shaped (.tuple (xs.map PyData.str)) = true := by
    show (PyData.canLayAll0 (xs.map PyData.str) && decide (PyData.depthAll (xs.map PyData.str) + 1 ≤ 64)) = true
    rw [can_strs ok, depth_strs]
    rfl
  refine ⟨_, _, .tup ha (dp_strs xs), .tup hb (dp_strs xs), sh, sh, ?_⟩
  rw [show PyData.eqv (.tuple (xs.map PyData.str)) (.tuple (xs.map PyData.str)) = true from eqv_strs xs]
  exact h
end
end Tm
set_option maxRecDepth 100000
set_option maxHeartbeats 4000000
/-! More days never end sooner; often as many days end often as late. -/
namespace Tm
open PySem PySem.Spec PyProof.Rows L2
def SpLe (s t : Span) : Prop := s.1 = t.1 ∧ s.2.1 ≤ t.2.1 ∧ s.2.2 ≤ t.2.2
theorem sp_le {sp tp : List Span} (h : Paired SpLe sp tp) (x : Str) : begIn sp x ≤ begIn tp x ∧ endIn sp x ≤ endIn tp x := by
  unfold begIn endIn
  induction h with
  | nil => exact ⟨Int.le_refl _, Int.le_refl _⟩
  | cons f _ ih =>
    rename_i s t _ _ _
    obtain ⟨y, b, e⟩ := s
    obtain ⟨z, c, g⟩ := t
    obtain ⟨rfl, h1, h2⟩ := f
    rw [look_cons, look_cons]
    by_cases q : y = x
    · have q' : ((y, b, e) : Span).1 = x := q
      rw [if_pos q, if_pos q]
      exact ⟨h1, h2⟩
    · rw [if_neg q, if_neg q]
      exact ih
theorem foldl_le : ∀ (xs : List Str) (f g : Str → Int) (a b : Int), (∀ x, f x ≤ g x) → a ≤ b → (xs.map f).foldl max a ≤ (xs.map g).foldl max b
  | [], _, _, _, _, _, h => h
  | x :: xs, f, g, a, b, h, hab => by
    rw [List.map_cons, List.map_cons, List.foldl_cons, List.foldl_cons]
    have := h x
    exact foldl_le xs f g _ _ h (by omega)
theorem maxL_le {xs : List Str} {f g : Str → Int} (h : ∀ x, f x ≤ g x) : maxL (xs.map f) ≤ maxL (xs.map g) := by
  cases xs with
  | nil => exact Int.le_refl _
  | cons x xs => exact foldl_le xs f g _ _ h (h x)
theorem start_le {sp tp : List Span} (h : Paired SpLe sp tp) (l : Lay) : startOf sp l ≤ startOf tp l := by
  cases l with
  | now => exact Int.le_refl _
  | behind xs => exact maxL_le fun x => (sp_le h x).2
  | beside x => exact (sp_le h x).1
  | split x k => exact (sp_le h x).1
/-- how much a row takes, in twelfths -/
def wt (dy : Str → Int) (r : Row) : Int := r.need * dy r.name
theorem stop_eq (sp : List Span) (dy : Str → Int) (r : Row) : stopOf sp dy r = match r.lay with
    | .split x k => max (startOf sp r.lay + 12 * wt dy r) (endIn sp x + k * wt dy r)
    | _ => startOf sp r.lay + 12 * wt dy r := by
  unfold stopOf wt
  cases r.lay <;> simp only [Int.mul_assoc]
theorem stop_le {sp tp : List Span} {dy dy' : Str → Int} {r q : Row} (h : Paired SpLe sp tp) (el : r.lay = q.lay) (ok : r.lay.Ok) (w : wt dy r ≤ wt dy' q) : stopOf sp dy r ≤ stopOf tp dy' q := by
  rw [stop_eq, stop_eq, ← el]
  have hs := start_le h r.lay
  cases e : r.lay with
  | split x k =>
    rw [e] at ok hs
    have k0 : 0 ≤ k := by
      have := ok.2.1
      omega
    have hx := (sp_le h x).2
    have hm : k * wt dy r ≤ k * wt dy' q := Int.mul_le_mul_of_nonneg_left w k0
    dsimp only
    omega
  | now => rw [e] at hs; dsimp only; omega
  | behind xs => rw [e] at hs; dsimp only; omega
  | beside x => rw [e] at hs; dsimp only; omega
theorem spans_le {dy dy' : Str → Int} {f g : Row → Row} (fn : ∀ r, (f r).name = r.name) (gn : ∀ r, (g r).name = r.name) (fl : ∀ r, (f r).lay = r.lay) (gl : ∀ r, (g r).lay = r.lay) : ∀ {rows : List Row} {sp tp : List Span}, Paired SpLe sp tp →
    (∀ r ∈ rows, r.lay.Ok ∧ wt dy (f r) ≤ wt dy' (g r)) → Paired SpLe ((rows.map f).foldl (step dy) sp) ((rows.map g).foldl (step dy') tp)
  | [], _, _, h, _ => h
  | r :: rows, sp, tp, h, hw => by
    rw [List.map_cons, List.map_cons, List.foldl_cons, List.foldl_cons]
    obtain ⟨ok, w⟩ := hw r (.head _)
    refine spans_le fn gn fl gl (Paired.snoc h ⟨?_, ?_, ?_⟩) fun q hq => hw q (.tail _ hq)
    · exact (fn r).trans (gn r).symm
    · show startOf sp (f r).lay ≤ startOf tp (g r).lay
      rw [fl, gl]
      exact start_le h r.lay
    · exact stop_le h ((fl r).trans (gl r).symm) (by rw [fl]; exact ok) w
theorem last_le {sp tp : List Span} (h : Paired SpLe sp tp) : lastOf sp ≤ lastOf tp := by
  have gen : ∀ {sp tp : List Span} (a b : Int), Paired SpLe sp tp → a ≤ b → (sp.map fun s => s.2.2).foldl max a ≤ (tp.map fun s => s.2.2).foldl max b := by
    intro sp tp a b h
    induction h generalizing a b with
    | nil => exact fun q => q
    | cons f _ ih =>
      intro q
      rw [List.map_cons, List.map_cons, List.foldl_cons, List.foldl_cons]
      have := f.2.2
      exact ih _ _ (by omega)
  cases h with
  | nil => exact Int.le_refl _
  | cons f t => exact gen _ _ t f.2.2
/-! ### often as many days -/
def scale (c : Int) (s : Span) : Span := (s.1, c * s.2.1, c * s.2.2)
theorem look_scale (c : Int) (x : Str) : ∀ (sp : List Span), (sp.map (scale c)).lookup x = (sp.lookup x).map fun p => (c * p.1, c * p.2)
  | [] => rfl
  | (y, b, e) :: sp => by
    show ((y, (c * b, c * e)) :: sp.map (scale c)).lookup x = _
    rw [look_cons, look_cons]
    by_cases q : y = x
    · rw [if_pos q, if_pos q]
      rfl
    · rw [if_neg q, if_neg q]
      exact look_scale c x sp
theorem beg_scale (c : Int) (sp : List Span) (x : Str) : begIn (sp.map (scale c)) x = c * begIn sp x ∧ endIn (sp.map (scale c)) x = c * endIn sp x := by
  unfold begIn endIn
  rw [look_scale]
  cases sp.lookup x with
  | none => simp
  | some p => exact ⟨rfl, rfl⟩
theorem max_scale {c : Int} (h : 0 ≤ c) (a b : Int) : max (c * a) (c * b) = c * max a b := by
  rcases Int.le_total a b with q | q
  · rw [Int.max_eq_right q, Int.max_eq_right (Int.mul_le_mul_of_nonneg_left q h)]
  · rw [Int.max_eq_left q, Int.max_eq_left (Int.mul_le_mul_of_nonneg_left q h)]
theorem maxL_scale {c : Int} (h : 0 ≤ c) (xs : List Int) : maxL (xs.map fun x => c * x) = c * maxL xs := by
  have gen : ∀ (xs : List Int) (a : Int), (xs.map fun x => c * x).foldl max (c * a) = c * xs.foldl max a := by
    intro xs
    induction xs with
    | nil => exact fun _ => rfl
    | cons x xs ih =>
      intro a
      rw [List.map_cons, List.foldl_cons, List.foldl_cons, max_scale h]
      exact ih _
  cases xs with
  | nil => exact (Int.mul_zero c).symm
  | cons x xs => exact gen xs x
theorem start_scale {c : Int} (h : 0 ≤ c) (sp : List Span) (l : Lay) : startOf (sp.map (scale c)) l = c * startOf sp l := by
  cases l with
  | now => exact (Int.mul_zero c).symm
  | behind xs =>
    show maxL (xs.map (endIn (sp.map (scale c)))) = c * maxL (xs.map (endIn sp))
    rw [← maxL_scale h, List.map_map]
    exact congrArg maxL (List.map_congr_left fun x _ => (beg_scale c sp x).2)
  | beside x => exact (beg_scale c sp x).1
  | split x k => exact (beg_scale c sp x).1
theorem stop_scale {c : Int} (h : 0 ≤ c) (sp : List Span) (dy : Str → Int) (r : Row) : stopOf (sp.map (scale c)) (fun x => c * dy x) r = c * stopOf sp dy r := by
  rw [stop_eq, stop_eq]
  have hw : wt (fun x => c * dy x) r = c * wt dy r := by
    show r.need * (c * dy r.name) = c * (r.need * dy r.name)
    rw [← Int.mul_assoc, Int.mul_comm r.need c, Int.mul_assoc]
  have one : ∀ (m a : Int), c * a + m * (c * wt dy r) = c * (a + m * wt dy r) := fun m a => by
    rw [Int.mul_add, ← Int.mul_assoc m c, Int.mul_comm m c, Int.mul_assoc c m]
  rw [start_scale h, hw]
  cases r.lay with
  | split x k =>
    dsimp only
    rw [(beg_scale c sp x).2, one, one, max_scale h]
  | now => exact one 12 _
  | behind xs => exact one 12 _
  | beside x => exact one 12 _
theorem spans_scale {c : Int} (h : 0 ≤ c) (dy : Str → Int) : ∀ (rows : List Row) (sp : List Span), rows.foldl (step fun x => c * dy x) (sp.map (scale c)) = (rows.foldl (step dy) sp).map (scale c)
  | [], _ => rfl
  | r :: rows, sp => by
    rw [List.foldl_cons, List.foldl_cons, ← spans_scale h dy rows]
    congr 1
    unfold step
    rw [List.map_append, start_scale h, stop_scale h]
    rfl
theorem last_scale {c : Int} (h : 0 ≤ c) (sp : List Span) : lastOf (sp.map (scale c)) = c * lastOf sp := by
  unfold lastOf
  rw [← maxL_scale h, List.map_map, List.map_map]
  rfl
end Tm
namespace Tm
open PySem PySem.Spec PyProof.Rows L2
/-! ### quashed is as good as no days -/
def put0 (z : Str) (ds : List (Str × Int)) : List (Str × Int) := ds.map fun p => if p.1 = z then (z, 0) else p
theorem look_put0 (z x : Str) : ∀ {ds : List (Str × Int)}, (put0 z ds).lookup x = if x = z then (ds.lookup x).map fun _ => 0 else ds.lookup x
  | [] => by
    show none = _
    by_cases c : x = z
    · rw [if_pos c]; rfl
    · rw [if_neg c]; rfl
  | (y, n) :: ds => by
    have ih := look_put0 z x (ds := ds)
    show ((if y = z then (z, 0) else (y, n)) :: put0 z ds).lookup x = _
    by_cases c : y = z
    · rw [if_pos c, look_cons, look_cons, ih]
      subst c
      by_cases q : y = x
      · rw [if_pos q, if_pos q, if_pos q.symm]
        rfl
      · rw [if_neg q, if_neg q]
    · rw [if_neg c, look_cons, look_cons, ih]
      by_cases q : y = x
      · rw [if_pos q, if_pos q, if_neg (fun e => c (q.trans e))]
      · rw [if_neg q, if_neg q]
theorem serve_quash {z : Str} {gone : List Str} {ds : List (Str × Int)} : serve (gone ++ [z]) ds = serve gone (put0 z ds) := by
  funext x
  unfold serve dayOf
  rw [look_put0]
  by_cases c : x ∈ gone
  · rw [if_pos c, if_pos (List.mem_append.mpr (.inl c))]
  · rw [if_neg c]
    by_cases q : x = z
    · rw [if_pos q, if_pos (List.mem_append.mpr (.inr (List.mem_singleton.mpr q)))]
      cases ds.lookup x <;> rfl
    · rw [if_neg q, if_neg]
      intro h
      rcases List.mem_append.mp h with h | h
      · exact c h
      · exact q (List.mem_singleton.mp h)
/-! ### all spans are at least 0, and one row more ends no sooner -/
def Pos (sp : List Span) : Prop := ∀ s ∈ sp, 0 ≤ s.2.1 ∧ 0 ≤ s.2.2
theorem pos_in {sp : List Span} (h : Pos sp) (x : Str) : 0 ≤ begIn sp x ∧ 0 ≤ endIn sp x := by
  unfold begIn endIn
  cases e : sp.lookup x with
  | none => exact ⟨Int.le_refl _, Int.le_refl _⟩
  | some p =>
    have : ∀ {l : List Span}, l.lookup x = some p → (x, p) ∈ l := by
      intro l
      induction l with
      | nil => intro z; cases z
      | cons q l ih =>
        obtain ⟨y, u⟩ := q
        rw [look_cons]
        intro z
        by_cases c : y = x
        · rw [if_pos c] at z
          rw [c, Option.some.inj z]
          exact .head _
        · rw [if_neg c] at z
          exact .tail _ (ih z)
    exact h _ (this e)
theorem maxL_pos {xs : List Int} (h : ∀ x ∈ xs, 0 ≤ x) : 0 ≤ maxL xs := by
  cases xs with
  | nil => exact Int.le_refl _
  | cons x xs => exact h _ (foldl_max xs x).2
theorem start_pos {sp : List Span} (h : Pos sp) (l : Lay) : 0 ≤ startOf sp l := by
  cases l with
  | now => exact Int.le_refl _
  | behind xs =>
    refine maxL_pos fun x hx => ?_
    obtain ⟨y, _, rfl⟩ := List.mem_map.mp hx
    exact (pos_in h y).2
  | beside x => exact (pos_in h x).1
  | split x k => exact (pos_in h x).1
theorem step_pos {sp : List Span} (h : Pos sp) {dy : Str → Int} {r : Row} (w : 0 ≤ wt dy r) : Pos (step dy sp r) := by
  intro s hs
  rcases List.mem_append.mp hs with q | q
  · exact h s q
  · rw [List.mem_singleton.mp q]
    refine ⟨start_pos h r.lay, ?_⟩
    show 0 ≤ stopOf sp dy r
    rw [stop_eq]
    have := start_pos h r.lay
    cases e : r.lay with
    | split x k => rw [e] at this; dsimp only; omega
    | now => rw [e] at this; dsimp only; omega
    | behind xs => rw [e] at this; dsimp only; omega
    | beside x => rw [e] at this; dsimp only; omega
theorem spans_pos {dy : Str → Int} : ∀ {rows : List Row} {sp : List Span}, Pos sp → (∀ r ∈ rows, 0 ≤ wt dy r) → Pos (rows.foldl (step dy) sp)
  | [], _, h, _ => h
  | r :: rows, sp, h, w => spans_pos (rows := rows) (step_pos h (w r (.head _))) fun q hq => w q (.tail _ hq)
theorem last_snoc {sp : List Span} {s : Span} (h : 0 ≤ s.2.2) : lastOf sp ≤ lastOf (sp ++ [s]) := by
  unfold lastOf
  cases sp with
  | nil => exact h
  | cons t sp =>
    rw [List.map_append]
    obtain ⟨a1, a2⟩ := foldl_max (sp.map fun s => s.2.2) t.2.2
    obtain ⟨b1, _⟩ := foldl_max ((sp.map fun s => s.2.2) ++ [s.2.2]) t.2.2
    refine b1 _ ?_
    rcases List.mem_cons.mp a2 with q | q
    · exact List.mem_cons.mpr (.inl q)
    · exact List.mem_cons.mpr (.inr (List.mem_append.mpr (.inl q)))
end Tm
set_option maxRecDepth 100000
set_option maxHeartbeats 4000000
/-! Tuples that are known to have no dict of their own: how they are made, and dict(a tuple of pairs). -/
namespace Tr
open PySem PySem.Spec PyProof.Rows L2
section
variable {X : Cx} {es : List Expr} {t : TA} {pos : Pos}
def tTupB (t : TA) : TE := fun σ H Q => t σ H fun xs H1 => xs.length ≤ sizeLine ∧ ∀ (p : Addr) (ob : Obj), H1 p = none → ob.dict = none → Q (.ref p) (upd H1 p (.frz ob (.tup xs)))
theorem pe_tupB {x1} (h : PA X es t) : PE X (.Tuple es x1 pos) (tTupB t) := by
  refine ⟨fun pins s σ H Q I hq => wpAny_Tuple_spliced (thn (h.run pos pins s σ H _ I hq) fun us s1 ⟨xs, H1, I1, r, z, q⟩ => ⟨by rw [← r.length]; exact z, ?_⟩)⟩
  have gone : H1 s1.heap.objs.size = none := I1.hok.fresh (Nat.le_refl _)
  have at_ : (s1.heap.push { cls := .type "tuple", data := .seq us.toArray }).get? s1.heap.objs.size = some { cls := .type "tuple", data := .seq us.toArray } := Heap.get?_push_size _ rfl
  exact ⟨.ref s1.heap.objs.size, _, I1.laid (t' := s1.toks) (fun b u e => Heap.get?_push_of_some _ e) (Nat.le_refl _) (show ObjOk X.prog X.w _ _ _ (.frz _ (.tup xs)) from ⟨at_, z, us, r, ⟨_, at_, rfl, _, rfl⟩⟩), rfl, q _ _ gone rfl⟩
def rCatB (K : PySem.W.Frag) : R2 := fun x y H Q => ∃ a b xs ys, x = .ref a ∧ y = .ref b ∧ SqT K H a xs ∧ SqT K H b ys ∧ xs.length + ys.length ≤ sizeLine ∧ (xs = [] → Q (.ref b) H) ∧ (xs ≠ [] → ys = [] → Q (.ref a) H) ∧
  (xs ≠ [] → ys ≠ [] → ∀ (p : Addr) (ob : Obj), H p = none → ob.dict = none → Q (.ref p) (upd H p (.frz ob (.tup (xs ++ ys)))))
theorem op_catB : OpR X (binaryOp .Add) (rCatB X.K) := by
  intro pins s σ H x y v u Q I rx ry h
  obtain ⟨a, b, xs, ys, rfl, rfl, ha, hb, hz, q0, q1, q2⟩ := h
  cases rx
  cases ry
  obtain ⟨its, r1, p1, _⟩ := I.tuple ha
  obtain ⟨its2, r2, p2, _⟩ := I.tuple hb
  by_cases hx : xs = []
  · subst hx
    cases r1
    exact cat_tup0 p1 p2 ⟨.ref b, H, I, rfl, q0 rfl⟩
  · refine HT.cat_tup p1 p2 (fun z => hx (r1.nil_iff.mp z)) (fun z => ⟨.ref a, H, I, rfl, q1 hx (r2.nil_iff.mp z)⟩) (fun z => ?_) (by rw [← r1.length, ← r2.length]; exact hz)
    have at_ : (s.heap.push { cls := .type "tuple", data := .seq (its ++ its2).toArray }).get? s.heap.objs.size = some { cls := .type "tuple", data := .seq (its ++ its2).toArray } := Heap.get?_push_size _ rfl
    exact ⟨.ref s.heap.objs.size, _, I.laid (t' := s.toks) (fun b ob q => Heap.get?_push_of_some _ q) (Nat.le_refl _) (show ObjOk X.prog X.w _ _ _ (.frz _ (.tup (xs ++ ys))) from ⟨at_, by rw [List.length_append]; exact hz, _, r1.append r2, ⟨_, at_, rfl, _, rfl⟩⟩), rfl, q2 hx (fun w => z (r2.nil_iff.mpr w)) _ _ (I.hok.fresh (Nat.le_refl _)) rfl⟩
def rSlB (K : PySem.W.Frag) : V → Option Int → Option Int → Hp → VK → Prop := fun x lo hi H Q => ∃ a xs, x = .ref a ∧ SqT K H a xs ∧ (HT.sIx xs.length 0 lo = 0 ∧ HT.sIx xs.length xs.length hi = xs.length → Q (.ref a) H) ∧
  (¬ (HT.sIx xs.length 0 lo = 0 ∧ HT.sIx xs.length xs.length hi = xs.length) → ∀ (p : Addr) (ob : Obj), H p = none → ob.dict = none → Q (.ref p) (upd H p (.frz ob (.tup (cutV xs lo hi)))))
theorem sl_tupB : SlR X (rSlB X.K) := by
  intro pins s σ H x v vl vu lo hi sl Q I rx hs pl pu h
  obtain ⟨a, xs, rfl, hx, q1, q2⟩ := h
  cases rx
  obtain ⟨its, r, ht, hz⟩ := I.tuple hx
  have hlen : its.toArray.size = xs.length := by rw [List.size_toArray]; exact r.length.symm
  refine ⟨"tuple", _, PyProof.Rows.slot_tuple_getitem.lookup, ht.typeIs, ?_⟩
  by_cases hw : HT.sIx xs.length 0 lo = 0 ∧ HT.sIx xs.length xs.length hi = xs.length
  · exact getItem_tuple_whole ht hs pl pu (by rw [hlen]; exact hw) ⟨.ref a, H, I, rfl, q1 hw⟩
  · refine HT.getItem_tuple_cut ht hs pl pu (by rw [hlen]; exact hw) ?_ (by rw [hlen]; exact hz)
    rw [hlen]
    generalize hits : ((its.drop (HT.sIx xs.length 0 lo)).take (HT.sIx xs.length xs.length hi - HT.sIx xs.length 0 lo)) = cut
    have rc : Vals (cutV xs lo hi) cut := by
      rw [← hits]
      exact (r.drop (HT.sIx xs.length 0 lo)).take (HT.sIx xs.length xs.length hi - HT.sIx xs.length 0 lo)
    have at_ : (s.heap.push { cls := .type "tuple", data := .seq cut.toArray }).get? s.heap.objs.size = some { cls := .type "tuple", data := .seq cut.toArray } := Heap.get?_push_size _ rfl
    exact ⟨.ref s.heap.objs.size, _, I.laid (t' := s.toks) (fun b ob q => Heap.get?_push_of_some _ q) (Nat.le_refl _) (show ObjOk X.prog X.w _ _ _ (.frz _ (.tup (cutV xs lo hi))) from ⟨at_, Nat.le_trans (cutV_length xs lo hi) hz, cut, rc, ⟨_, at_, rfl, _, rfl⟩⟩), rfl, q2 hw _ _ (I.hok.fresh (Nat.le_refl _)) rfl⟩
def rTupB (K : PySem.W.Frag) : List V → Hp → VK → Prop := fun xs H Q => ∃ p ys, xs = [.ref p] ∧ ((SqL K H p ys ∧ ∀ (l : Addr) (ob : Obj), H l = none → ob.dict = none → Q (.ref l) (upd H l (.frz ob (.tup ys)))) ∨ (SqT K H p ys ∧ Q (.ref p) H))
theorem call_tupB : CallR X (.type "tuple") (rTupB X.K) := by
  intro pins s σ H xs us Q I r h
  obtain ⟨p, ys, rfl, h⟩ := h
  obtain ⟨u, rfl, rx⟩ := vals1 r
  cases rx
  rcases h with ⟨hq, q⟩ | ⟨hq, q⟩
  · obtain ⟨its, r', pl, hz⟩ := I.list hq
    have hlen := r'.length
    refine call_tuple_list pl.isList (fun h' kp => ?_) (by simp only [List.size_toArray] <;> omega)
    have I1 : Inv X pins σ H { s with heap := h' } := I.kept (t' := s.toks) kp
    have at_ : (h'.push { cls := .type "tuple", data := .seq its.toArray }).get? h'.objs.size = some { cls := .type "tuple", data := .seq its.toArray } := Heap.get?_push_size _ rfl
    exact ⟨.ref h'.objs.size, _, I1.laid (t' := s.toks) (fun b o e => Heap.get?_push_of_some _ e) (Nat.le_refl _) (show ObjOk X.prog X.w _ _ _ (.frz _ (.tup ys)) from ⟨at_, hz, its, r', ⟨_, at_, rfl, _, rfl⟩⟩), rfl, q _ _ (I1.hok.fresh (Nat.le_refl _)) rfl⟩
  · obtain ⟨its, r', pl, hz⟩ := I.tuple hq
    exact call_tuple_same pl ⟨.ref p, H, I, rfl, q⟩
/-- the tuple at a has no dict -/
def BareAt (K : PySem.W.Frag) (H : Hp) (a : Addr) (xs : List V) : Prop := (∃ ob : Obj, ob.dict = none ∧ H a = some (.frz ob (.tup xs))) ∨ (xs = [] ∧ ∃ (o : Obj) (n : Nat), K.lookup a = some o ∧ o.cls = .type "tuple" ∧ o.data = .seq #[] n ∧ o.dict = none)
theorem bare_plain {pins : List (Addr × Obj)} {σ : L2.St} {H : Hp} {s : Shared} {a : Addr} {xs : List V} (I : Inv X pins σ H s) (h : BareAt X.K H a xs) : ∃ its : List Value, Vals xs its ∧ PySem.PlainSeq "tuple" s.heap a its.toArray ∧ xs.length ≤ sizeLine := by
  rcases h with ⟨ob, d, e⟩ | ⟨rfl, o, n, h1, h2, h3, h4⟩
  · have k : ObjOk X.prog X.w H s.heap a (.frz ob (.tup xs)) := I.hok a _ e
    obtain ⟨g, z, its, r, o, ho, hc, n, hd⟩ := k
    rw [g] at ho
    cases ho
    exact ⟨its, r, ⟨ob, n, g, hc, d, hd⟩, z⟩
  · exact ⟨[], .nil, ⟨o, n, I.kIn a o h1, h2, h4, h3⟩, Nat.zero_le _⟩
theorem BareAt.sq {K : PySem.W.Frag} {H : Hp} {a : Addr} {xs : List V} (h : BareAt K H a xs) : SqT K H a xs := by
  rcases h with ⟨ob, _, e⟩ | ⟨rfl, o, n, h1, h2, h3, _⟩
  · exact .inl (.inr ⟨ob, e⟩)
  · exact .inr ⟨o, #[], n, h1, h2, h3, Nat.zero_le _, .nil⟩
theorem pairs_vals {pins : List (Addr × Obj)} {σ : L2.St} {H : Hp} {s : Shared} (I : Inv X pins σ H s) : ∀ {ps : List Addr} {kvs : List (L2.Key × V)}, Paired (fun p (kv : L2.Key × V) => SqT X.K H p [kV kv.1, kv.2]) ps kvs →
    ∃ (prs : List (L2.Key × Value)) (uv : List (Value × Value)), KV kvs prs ∧ prs.length = ps.length ∧ uv.length = ps.length ∧ ∀ (j : Nat) (k v : Value), uv[j]? = some (k, v) → ∃ (b : Addr) (q : L2.Key × Value), ps[j]? = some b ∧ prs[j]? = some q ∧ q.2 = v ∧ IsTup s.heap b #[k, v] ∧ keyIs q.1 k = true
  | _, _, .nil => ⟨[], [], .nil, rfl, rfl, fun j k v e => by simp at e⟩
  | _, _, .cons (a := p) (b := kv) h t => by
    obtain ⟨prs, uv, r, l1, l2, hp⟩ := pairs_vals I t
    obtain ⟨its, rv, ht, _⟩ := I.tuple h
    obtain ⟨u, y, rfl, ru, ry⟩ := vals2 rv
    refine ⟨(kv.1, y) :: prs, (u, y) :: uv, .cons ⟨rfl, ry⟩ r, by rw [List.length_cons, List.length_cons, l1], by rw [List.length_cons, List.length_cons, l2], fun j k v e => ?_⟩
    cases j with
    | zero =>
      cases Option.some.inj e
      exact ⟨p, _, rfl, rfl, rfl, ht, kV_is (P := X.prog) (w := X.w) ru⟩
    | succ j =>
      obtain ⟨b, q, e1, e2, e3, e4, e5⟩ := hp j k v (by simpa using e)
      exact ⟨b, q, by simpa using e1, by simpa using e2, e3, e4, e5⟩
/-- dict(xs), xs a tuple of pairs -/
def rDictT (K : PySem.W.Frag) : List V → Hp → VK → Prop := fun xs H Q => ∃ (a : Addr) (ps : List Addr) (kvs : List (L2.Key × V)), xs = [.ref a] ∧ BareAt K H a (ps.map V.ref) ∧ Paired (fun p (kv : L2.Key × V) => SqT K H p [kV kv.1, kv.2]) ps kvs ∧
  ∀ p, H p = none → Q (.ref p) (upd H p (.dK (mergeK [] kvs)))
theorem call_dictT (calm : X.calm = true) : CallR X (.type "dict") (rDictT X.K) := by
  intro pins s σ H xs us Q I r h
  obtain ⟨a, ps, kvs, rfl, hb, hp, q⟩ := h
  obtain ⟨u, rfl, rx⟩ := vals1 r
  cases rx
  obtain ⟨its, rv, pl, z⟩ := bare_plain I hb
  have ei := refs_at rv
  subst ei
  rw [List.length_map] at z
  obtain ⟨prs, uv, rel, l1, l2, all⟩ := pairs_vals I hp
  refine PySem.call_dict_pairs (knd := mixKind X.prog X.w) (kvs := prs) (PairArg.tuple a (ps.map Value.ref).toArray (fun j => (ps[j]?).getD 0) uv) (I.ok.hd calm) ⟨pl, by simp [l2], fun j k v e => ?_⟩ ⟨by rw [l1, l2], fun j k v e => ?_⟩ (by rw [l2]; exact z) fun h' tk hd' kept => ?_
  · obtain ⟨b, q, e1, e2, e3, e4, e5⟩ := all j k v e
    refine ⟨by simp [e1], .inl ?_⟩
    show s.heap.IsTuple ((ps[j]?).getD 0) #[k, v]
    rw [e1]
    exact e4
  · obtain ⟨b, q, e1, e2, e3, e4, e5⟩ := all j k v e
    obtain ⟨q1, q2⟩ := q
    cases e3
    exact ⟨q1, e2, e5⟩
  · have hm : (s.heap.objs.size == sysModules) = false := beq_eq_false_iff_ne.mpr (Nat.ne_of_gt I.big)
    have hlen : (mergeK [] kvs).length ≤ sizeLine := by
      refine Nat.le_trans (length_mergeK kvs []) ?_
      rw [List.length_nil, Nat.zero_add, rel.length, l1]
      exact z
    exact ⟨.ref s.heap.objs.size, upd H s.heap.objs.size (.dK (mergeK [] kvs)), I.laid (t' := tk) (fun b o e => kept b o (by simp) e) (Nat.le_refl _) (show ObjOk X.prog X.w _ _ _ (.dK (mergeK [] kvs)) from ⟨hlen, hm, merged [] prs, KV.merge rel .nil, hd'⟩), rfl, q _ (I.hok.fresh (Nat.le_refl _))⟩
end
end Tr
set_option maxRecDepth 100000
set_option maxHeartbeats 4000000
/-! Trees: what a pure def does, told over values without addresses. -/
namespace Tr
open PySem PySem.Spec PyProof.Rows L2 Tm

inductive T where
  | non | bl (b : Bool) | int (i : Int) | str (z : Str)
  | tup (xs : List T) | tpl (xs : List T) | lst (xs : List T) | dic (kvs : List (Key × T)) | ins (C : Nat) (fs : List (Str × T))
  | ty (n : String) | cls (C : Nat) | tape
/-- the program's own classes, by number -/
class Cl where
  ad : Nat → Addr
  K : PySem.W.Frag
  /-- empty tuples of the written part -/
  kt : Addr → Prop
  ok : ∀ a, kt a → ∃ (o : Obj) (n : Nat), K.lookup a = some o ∧ o.cls = .type "tuple" ∧ o.data = .seq #[] n ∧ o.dict = none
  /-- the tables of code objects, each with the name that its objects bear -/
  tb : List (Addr × Str) := []
/-- where the tape lies, if there is one -/
class Tt where
  tp : Option Addr
variable [Cl] [Tt]
def TupAt (F : Hp) (a : Addr) (vs : List V) : Prop := (∃ ob : Obj, ob.dict = none ∧ F a = some (.frz ob (.tup vs))) ∨ (Cl.kt a ∧ vs = [])

/-! ### a value read as a tree, in the part F of the heap that stands -/
mutual
inductive RT (F : Hp) : V → T → Prop
  | non : RT F .non .non
  | bl (b : Bool) : RT F (.bl b) (.bl b)
  | int (i : Int) : RT F (.int i) (.int i)
  | str (z : Str) : RT F (.str z) (.str z)
  | ty (n : String) : RT F (.ty n) (.ty n)
  | cls (C : Nat) : RT F (.ref (Cl.ad C)) (.cls C)
  | tape {a : Addr} : Tt.tp = some a → RT F (.ref a) .tape
  | tup {a : Addr} {vs : List V} {ts : List T} : TupAt F a vs → RTs F vs ts → RT F (.ref a) (.tup ts)
  | tpl {a : Addr} {vs : List V} {ts : List T} : F a = some (.tup vs) → RTs F vs ts → RT F (.ref a) (.tpl ts)
  | lst {a : Addr} {vs : List V} {ts : List T} : F a = some (.lst vs) → RTs F vs ts → RT F (.ref a) (.lst ts)
  | dic {a : Addr} {kvs : List (Key × V)} {kts : List (Key × T)} : F a = some (.dK kvs) → RTd F kvs kts → RT F (.ref a) (.dic kts)
  | ins {a dx : Addr} {C : Nat} {fs : List (Str × V)} {fts : List (Str × T)} : F a = some (.ins (Cl.ad C) dx fs) → RTf F fs fts → RT F (.ref a) (.ins C fts)
inductive RTs (F : Hp) : List V → List T → Prop
  | nil : RTs F [] []
  | cons {v : V} {t : T} {vs : List V} {ts : List T} : RT F v t → RTs F vs ts → RTs F (v :: vs) (t :: ts)
inductive RTd (F : Hp) : List (Key × V) → List (Key × T) → Prop
  | nil : RTd F [] []
  | cons {k : Key} {v : V} {t : T} {vs : List (Key × V)} {ts : List (Key × T)} : RT F v t → RTd F vs ts → RTd F ((k, v) :: vs) ((k, t) :: ts)
inductive RTf (F : Hp) : List (Str × V) → List (Str × T) → Prop
  | nil : RTf F [] []
  | cons {k : Str} {v : V} {t : T} {vs : List (Str × V)} {ts : List (Str × T)} : RT F v t → RTf F vs ts → RTf F ((k, v) :: vs) ((k, t) :: ts)
end
def Le (F F' : Hp) : Prop := ∀ a o, F a = some o → F' a = some o
theorem Le.refl (F : Hp) : Le F F := fun _ _ h => h
theorem Le.trans {F G M : Hp} (a : Le F G) (b : Le G M) : Le F M := fun c o h => b c o (a c o h)
theorem le_new {F : Hp} {p : Addr} {o : HO} (h : F p = none) : Le F (upd F p o) := fun b u e => by rw [upd_ne (ne_of_none e h)]; exact e
mutual
theorem RT.mono {F F' : Hp} (s : Le F F') : ∀ {t : T} {v : V}, RT F v t → RT F' v t
  | .non, _, h => by cases h; exact .non
  | .bl b, _, h => by cases h; exact .bl b
  | .int i, _, h => by cases h; exact .int i
  | .str z, _, h => by cases h; exact .str z
  | .ty z, _, h => by cases h; exact .ty z
  | .cls z, _, h => by cases h; exact .cls z
  | .tape, _, h => by
    cases h with
    | tape e => exact .tape e
  | .tup ts, _, h => by
    cases h with
    | tup e r => exact .tup (e.imp (fun ⟨ob, d, z⟩ => ⟨ob, d, s _ _ z⟩) id) (RTs.mono s r)
  | .tpl ts, _, h => by
    cases h with
    | tpl e r => exact .tpl (s _ _ e) (RTs.mono s r)
  | .lst ts, _, h => by
    cases h with
    | lst e r => exact .lst (s _ _ e) (RTs.mono s r)
  | .dic ts, _, h => by
    cases h with
    | dic e r => exact .dic (s _ _ e) (RTd.mono s r)
  | .ins C ts, _, h => by
    cases h with
    | ins e r => exact .ins (s _ _ e) (RTf.mono s r)
theorem RTs.mono {F F' : Hp} (s : Le F F') : ∀ {ts : List T} {vs : List V}, RTs F vs ts → RTs F' vs ts
  | [], _, h => by cases h; exact .nil
  | t :: ts, _, h => by
    cases h with
    | cons a b => exact .cons (RT.mono s a) (RTs.mono s b)
theorem RTd.mono {F F' : Hp} (s : Le F F') : ∀ {ts : List (Key × T)} {vs : List (Key × V)}, RTd F vs ts → RTd F' vs ts
  | [], _, h => by cases h; exact .nil
  | (_, t) :: ts, _, h => by
    cases h with
    | cons a b => exact .cons (RT.mono s a) (RTd.mono s b)
theorem RTf.mono {F F' : Hp} (s : Le F F') : ∀ {ts : List (Str × T)} {vs : List (Str × V)}, RTf F vs ts → RTf F' vs ts
  | [], _, h => by cases h; exact .nil
  | (_, t) :: ts, _, h => by
    cases h with
    | cons a b => exact .cons (RT.mono s a) (RTf.mono s b)
end
theorem RTs.len {F : Hp} : ∀ {vs : List V} {ts : List T}, RTs F vs ts → vs.length = ts.length
  | [], _, h => by cases h; rfl
  | _ :: _, _, h => by
    cases h with
    | cons a b => exact congrArg Nat.succ (RTs.len b)
theorem RTd.len {F : Hp} : ∀ {vs : List (Key × V)} {ts : List (Key × T)}, RTd F vs ts → vs.length = ts.length
  | [], _, h => by cases h; rfl
  | _ :: _, _, h => by
    cases h with
    | cons a b => exact congrArg Nat.succ (RTd.len b)
theorem RTf.len {F : Hp} : ∀ {vs : List (Str × V)} {ts : List (Str × T)}, RTf F vs ts → vs.length = ts.length
  | [], _, h => by cases h; rfl
  | _ :: _, _, h => by
    cases h with
    | cons a b => exact congrArg Nat.succ (RTf.len b)
theorem RTs.at {F : Hp} : ∀ {vs : List V} {ts : List T} {i : Nat} {t : T}, RTs F vs ts → ts[i]? = some t → ∃ v, vs[i]? = some v ∧ RT F v t
  | _, [], i, t, h, e => by simp at e
  | _, u :: ts, 0, t, h, e => by
    cases h with
    | cons a b =>
      simp at e
      subst e
      exact ⟨_, rfl, a⟩
  | _, u :: ts, i + 1, t, h, e => by
    cases h with
    | cons a b =>
      obtain ⟨v, h1, h2⟩ := RTs.at b (by simpa using e)
      exact ⟨v, by simpa using h1, h2⟩
theorem RTs.at' {F : Hp} {vs : List V} {ts : List T} {i : Nat} {v : V} (h : RTs F vs ts) (e : vs[i]? = some v) : ∃ t, ts[i]? = some t ∧ RT F v t := by
  have lt : i < vs.length := by
    rw [List.getElem?_eq_some_iff] at e
    exact e.1
  have lt2 : i < ts.length := by rw [← h.len]; exact lt
  obtain ⟨v', h1, h2⟩ := RTs.at h (List.getElem?_eq_getElem lt2)
  rw [e] at h1
  cases h1
  exact ⟨_, List.getElem?_eq_getElem lt2, h2⟩
theorem RTs.snoc {F : Hp} : ∀ {vs : List V} {ts : List T} {v : V} {t : T}, RTs F vs ts → RT F v t → RTs F (vs ++ [v]) (ts ++ [t])
  | _, [], _, _, h, r => by cases h; exact .cons r .nil
  | _, _ :: _, _, _, h, r => by
    cases h with
    | cons a b => exact .cons a (RTs.snoc b r)
theorem RTs.append {F : Hp} : ∀ {vs ws : List V} {ts us : List T}, RTs F vs ts → RTs F ws us → RTs F (vs ++ ws) (ts ++ us)
  | _, _, [], _, h, r => by cases h; exact r
  | _, _, _ :: _, _, h, r => by
    cases h with
    | cons a b => exact .cons a (RTs.append b r)
theorem RTs.take {F : Hp} : ∀ {vs : List V} {ts : List T} (n : Nat), RTs F vs ts → RTs F (vs.take n) (ts.take n)
  | _, _, 0, _ => .nil
  | _, [], n + 1, h => by cases h; exact .nil
  | _, _ :: _, n + 1, h => by
    cases h with
    | cons a b => exact .cons a (RTs.take n b)
theorem RTs.drop {F : Hp} : ∀ {vs : List V} {ts : List T} (n : Nat), RTs F vs ts → RTs F (vs.drop n) (ts.drop n)
  | _, _, 0, h => h
  | _, [], n + 1, h => by cases h; exact .nil
  | _, _ :: _, n + 1, h => by
    cases h with
    | cons a b => exact RTs.drop n b
theorem RTs.setN {F : Hp} : ∀ {vs : List V} {ts : List T} {v : V} {t : T} (n : Nat), RTs F vs ts → RT F v t → RTs F (vs.set n v) (ts.set n t)
  | _, [], _, _, n, h, _ => by cases h; exact .nil
  | _, _ :: _, _, _, 0, h, r => by
    cases h with
    | cons a b => exact .cons r b
  | _, _ :: _, _, _, n + 1, h, r => by
    cases h with
    | cons a b => exact .cons a (RTs.setN n b r)
/-! scalars -/
def scal : T → Bool
  | .non => true
  | .bl _ => true
  | .int _ => true
  | .str _ => true
  | .ty _ => true
  | .cls _ => true
  | .tape => true
  | _ => false
theorem RT.scal {F G : Hp} {v : V} {t : T} (r : RT F v t) (s : Tr.scal t = true) : RT G v t := by
  cases r with
  | non => exact .non
  | bl b => exact .bl b
  | int i => exact .int i
  | str z => exact .str z
  | ty z => exact .ty z
  | cls z => exact .cls z
  | tape e => exact .tape e
  | tup _ _ => cases s
  | tpl _ _ => cases s
  | lst _ _ => cases s
  | dic _ _ => cases s
  | ins _ _ => cases s

/-! ### slots -/
inductive Sl where
  | un | val (t : T) | own (t : T)
abbrev Sg := List Sl
def OwnAt (F H : Hp) (p : Addr) : T → Prop
  | .lst ts => ∃ vs, H p = some (.lst vs) ∧ RTs F vs ts
  | .dic ts => ∃ vs, H p = some (.dK vs) ∧ RTd F vs ts
  | .ins C ts => ∃ dx vs, H p = some (.ins (Cl.ad C) dx vs) ∧ RTf F vs ts
  | _ => False
inductive SlOk (d : Option Addr) (F H : Hp) : Sl → Option V → Prop
  | un (x : Option V) : SlOk d F H .un x
  | val {v : V} {t : T} : RT F v t → SlOk d F H (.val t) (some v)
  | own {p : Addr} {t : T} : OwnAt F H p t → F p = none → d ≠ some p → SlOk d F H (.own t) (some (.ref p))
/-- what stands at a; a dict may be locked -/
inductive Hd (H : Hp) (a : Addr) (o : HO) : Prop
  | is (h : H a = some o)
  | lock (ob : Obj) (kvs : List (Key × V)) (e : o = .dK kvs) (h : H a = some (.frz ob o))
theorem Hd.rd {H : Hp} {a : Addr} {o : HO} : Hd H a o → Rd H a o
  | .is h => .inl h
  | .lock ob _ _ h => .inr ⟨ob, h⟩
/-- no table of code objects: such a one grows -/
def Nt (o : HO) : Prop := ∀ ps, o ≠ .tbl ps
theorem nt_lst (vs : List V) : Nt (.lst vs) := fun _ z => by cases z
theorem nt_tup (vs : List V) : Nt (.tup vs) := fun _ z => by cases z
theorem nt_dK (vs : List (Key × V)) : Nt (.dK vs) := fun _ z => by cases z
theorem nt_ins (C x : Addr) (vs : List (Str × V)) : Nt (.ins C x vs) := fun _ z => by cases z
theorem nt_frz (ob : Obj) (o : HO) : Nt (.frz ob o) := fun _ z => by cases z
theorem nt_ext (f : Heap → Prop) : Nt (.ext f) := fun _ z => by cases z
/-- a thing that may be changed -/
inductive Chg : HO → Prop
  | lst (vs : List V) : Chg (.lst vs)
  | dK (vs : List (Key × V)) : Chg (.dK vs)
  | ins (C x : Addr) (vs : List (Str × V)) : Chg (.ins C x vs)
  | frz (ob : Obj) (o : HO) : Chg (.frz ob o)
theorem Chg.nt {o : HO} (c : Chg o) : Nt o := by
  cases c with
  | lst _ => exact nt_lst _
  | dK _ => exact nt_dK _
  | ins _ _ _ => exact nt_ins _ _ _
  | frz _ _ => exact nt_frz _ _
theorem tabS_put {H : Hp} {P p : Addr} {q : Str} {o o' : HO} (t : LamX.TabS H P q) (e : H p = some o) (c : Chg o) : LamX.TabS (upd H p o') P q := by
  obtain ⟨ps, h1, h2, h3⟩ := t
  refine ⟨ps, ?_, h2, fun pos cv hc => ?_⟩
  · rw [upd_ne (fun z => by rw [z, e] at h1; cases c <;> cases h1)]
    exact h1
  · obtain ⟨a, e1, e2⟩ := h3 pos cv hc
    refine ⟨a, e1, ?_⟩
    rw [upd_ne (fun z => by
      rw [z, e] at e2
      unfold LamX.CodeO at e2
      cases c <;> cases e2)]
    exact e2
theorem tabs_put {T : List (Addr × Str)} {H : Hp} {p : Addr} {o o' : HO} (t : LamX.Tabs T H) (e : H p = some o) (c : Chg o) : LamX.Tabs T (upd H p o') := fun x hx => tabS_put (t x hx) e c
theorem tabs_new {T : List (Addr × Str)} {H : Hp} {p : Addr} {o : HO} (t : LamX.Tabs T H) (e : H p = none) : LamX.Tabs T (upd H p o) := t.ext fun b u h => by rw [upd_ne (ne_of_none h e)]; exact h
/-- F and H: what stands, and the heap; the tape at d -/
structure Wd (d : Option Addr) (F H : Hp) : Prop where
  dt : d = Tt.tp
  sub : ∀ a o, F a = some o → Hd H a o
  tape : ∀ x, d = some x → Tape H x ∧ F x = none
  tabs : LamX.Tabs Cl.tb H
  nt : ∀ a o, F a = some o → Nt o
/-- a step that makes new things, and may turn the tape -/
structure Up (d : Option Addr) (F H F' H' : Hp) : Prop where
  f : Le F F'
  keep : ∀ a o, d ≠ some a → Nt o → H a = some o → H' a = some o
  there : ∀ a, H a ≠ none → H' a ≠ none
  fresh : ∀ a, H a ≠ none → F' a = F a
  wd : Wd d F' H'
theorem Up.refl {d : Option Addr} {F H : Hp} (w : Wd d F H) : Up d F H F H := ⟨Le.refl F, fun _ _ _ _ h => h, fun _ h => h, fun _ _ => rfl, w⟩
theorem Up.trans {d : Option Addr} {F H F1 H1 F2 H2 : Hp} (a : Up d F H F1 H1) (b : Up d F1 H1 F2 H2) (w : Wd d F H) : Up d F H F2 H2 where
  f := a.f.trans b.f
  keep := fun c o n nt h => b.keep c o n nt (a.keep c o n nt h)
  there := fun c h => b.there c (a.there c h)
  fresh := fun c h => by rw [b.fresh c (a.there c h), a.fresh c h]
  wd := b.wd
/-- own things stand apart -/
def Dj (σ' : Sg) (σ : L2.St) : Prop := ∀ (i j : Nat) (p q : Addr) (t u : T), i ≠ j → σ'[i]? = some (Sl.own t) → σ'[j]? = some (Sl.own u) → σ[i]? = some (some (V.ref p)) → σ[j]? = some (some (V.ref q)) → p ≠ q
structure Sts (d : Option Addr) (F H : Hp) (σ' : Sg) (σ : L2.St) : Prop where
  wd : Wd d F H
  sl : Paired (SlOk d F H) σ' σ
  dj : Dj σ' σ
theorem OwnAt.some {F H : Hp} {p : Addr} {t : T} (h : OwnAt F H p t) : ∃ o, H p = some o := by
  cases t with
  | lst ts => obtain ⟨vs, e, _⟩ := h; exact ⟨_, e⟩
  | dic ts => obtain ⟨vs, e, _⟩ := h; exact ⟨_, e⟩
  | ins C ts => obtain ⟨dx, vs, e, _⟩ := h; exact ⟨_, e⟩
  | non => exact h.elim
  | bl _ => exact h.elim
  | int _ => exact h.elim
  | str _ => exact h.elim
  | tup _ => exact h.elim
  | tpl _ => exact h.elim
  | ty _ => exact h.elim
  | cls _ => exact h.elim
  | tape => exact h.elim
theorem OwnAt.chg {F H : Hp} {p : Addr} {t : T} (h : OwnAt F H p t) : ∃ o, H p = Option.some o ∧ Chg o := by
  cases t with
  | lst ts => obtain ⟨vs, e, _⟩ := h; exact ⟨_, e, .lst _⟩
  | dic ts => obtain ⟨vs, e, _⟩ := h; exact ⟨_, e, .dK _⟩
  | ins C ts => obtain ⟨dx, vs, e, _⟩ := h; exact ⟨_, e, .ins _ _ _⟩
  | non => exact h.elim
  | bl _ => exact h.elim
  | int _ => exact h.elim
  | str _ => exact h.elim
  | tup _ => exact h.elim
  | tpl _ => exact h.elim
  | ty _ => exact h.elim
  | cls _ => exact h.elim
  | tape => exact h.elim
theorem OwnAt.nt {F H : Hp} {p : Addr} {t : T} {o : HO} (h : OwnAt F H p t) (e : H p = Option.some o) : Nt o := by
  obtain ⟨o', e', c⟩ := h.chg
  rw [e] at e'
  cases e'
  exact c.nt
theorem OwnAt.mono {F H F' H' : Hp} {p : Addr} {t : T} (s : Le F F') (e : H' p = H p) (h : OwnAt F H p t) : OwnAt F' H' p t := by
  cases t with
  | lst ts => obtain ⟨vs, e1, r⟩ := h; exact ⟨vs, by rw [e]; exact e1, r.mono s⟩
  | dic ts => obtain ⟨vs, e1, r⟩ := h; exact ⟨vs, by rw [e]; exact e1, r.mono s⟩
  | ins C ts => obtain ⟨dx, vs, e1, r⟩ := h; exact ⟨dx, vs, by rw [e]; exact e1, r.mono s⟩
  | non => exact h.elim
  | bl _ => exact h.elim
  | int _ => exact h.elim
  | str _ => exact h.elim
  | tup _ => exact h.elim
  | tpl _ => exact h.elim
  | ty _ => exact h.elim
  | cls _ => exact h.elim
  | tape => exact h.elim
theorem SlOk.up {d : Option Addr} {F H F' H' : Hp} (u : Up d F H F' H') {s : Sl} {x : Option V} (h : SlOk d F H s x) : SlOk d F' H' s x := by
  cases h with
  | un => exact .un x
  | val r => exact .val (r.mono u.f)
  | own o n c =>
    obtain ⟨ob, e, ch⟩ := o.chg
    exact .own (o.mono u.f (by rw [e, u.keep _ _ c ch.nt e])) (by rw [u.fresh _ (by rw [e]; exact fun z => nomatch z), n]) c
theorem Sts.up {d : Option Addr} {F H F' H' : Hp} {σ' : Sg} {σ : L2.St} (s : Sts d F H σ' σ) (u : Up d F H F' H') : Sts d F' H' σ' σ :=
  ⟨u.wd, pr_mono (fun _ _ h => h.up u) s.sl, s.dj⟩
theorem Sts.at {d : Option Addr} {F H : Hp} {σ' : Sg} {σ : L2.St} (s : Sts d F H σ' σ) {i : Nat} {t : T} (e : σ'[i]? = some (Sl.val t)) : ∃ v, σ[i]? = some (some v) ∧ RT F v t := by
  obtain ⟨x, h1, h2⟩ := pr_at s.sl e
  cases h2 with
  | val r => exact ⟨_, h1, r⟩
theorem Sts.ownAt {d : Option Addr} {F H : Hp} {σ' : Sg} {σ : L2.St} (s : Sts d F H σ' σ) {i : Nat} {t : T} (e : σ'[i]? = some (Sl.own t)) : ∃ p, σ[i]? = some (some (.ref p)) ∧ OwnAt F H p t ∧ F p = none ∧ d ≠ some p := by
  obtain ⟨x, h1, h2⟩ := pr_at s.sl e
  cases h2 with
  | own o n c => exact ⟨_, h1, o, n, c⟩

/-! ### mirrors -/
abbrev ME := Sg → (T → Bool) → Bool
abbrev MT := Sg → (Bool → Bool) → Bool
abbrev MA := Sg → (List T → Bool) → Bool
abbrev MO := Sg → (Option Int → Bool) → Bool
def SE (d : Option Addr) (t : TE) (m : ME) : Prop := ∀ F H σ σ', Sts d F H σ' σ → ∀ k : T → Bool, m σ' k = true → ∀ Q : VK,
  (∀ v x F' H', Up d F H F' H' → RT F' v x → k x = true → Q v H') → t σ H Q
def ST (d : Option Addr) (t : TT) (m : MT) : Prop := ∀ F H σ σ', Sts d F H σ' σ → ∀ k : Bool → Bool, m σ' k = true → ∀ Q : Bool → Hp → Prop,
  (∀ b F' H', Up d F H F' H' → k b = true → Q b H') → t σ H Q
def SA (d : Option Addr) (t : TA) (m : MA) : Prop := ∀ F H σ σ', Sts d F H σ' σ → ∀ k : List T → Bool, m σ' k = true → ∀ Q : List V → Hp → Prop,
  (∀ vs xs F' H', Up d F H F' H' → RTs F' vs xs → k xs = true → Q vs H') → t σ H Q
/-- an expression that makes a new thing -/
def SO (d : Option Addr) (t : TE) (m : ME) : Prop := ∀ F H σ σ', Sts d F H σ' σ → ∀ k : T → Bool, m σ' k = true → ∀ Q : VK,
  (∀ p x F' H', Up d F H F' H' → H p = none → F' p = none → OwnAt F' H' p x → k x = true → Q (.ref p) H') → t σ H Q

section
variable {d : Option Addr} {ta tb tc te : TE} {ma mb mc me : ME}
/-- a new thing is laid among what stands -/
def freezeO (F H : Hp) (p : Addr) : Hp := match H p with
  | some o => upd F p o
  | none => F
theorem own_rt {F H : Hp} {p : Addr} {t : T} (n : F p = none) (o : OwnAt F H p t) : RT (freezeO F H p) (.ref p) t := by
  cases t with
  | lst ts =>
    obtain ⟨vs, e, r⟩ := o
    unfold freezeO
    rw [e]
    exact .lst upd_same (r.mono (le_new n))
  | dic ts =>
    obtain ⟨vs, e, r⟩ := o
    unfold freezeO
    rw [e]
    exact .dic upd_same (r.mono (le_new n))
  | ins C ts =>
    obtain ⟨dx, vs, e, r⟩ := o
    unfold freezeO
    rw [e]
    exact .ins upd_same (r.mono (le_new n))
  | non => exact o.elim
  | bl _ => exact o.elim
  | int _ => exact o.elim
  | str _ => exact o.elim
  | tup _ => exact o.elim
  | tpl _ => exact o.elim
  | ty _ => exact o.elim
  | cls _ => exact o.elim
  | tape => exact o.elim
theorem freeze_wd {F H : Hp} {p : Addr} (w : Wd d F H) (n : F p = none) (c : d ≠ some p) (nt : ∀ o, H p = some o → Nt o) : Wd d (freezeO F H p) H := by
  unfold freezeO
  cases e : H p with
  | none => exact w
  | some o =>
    dsimp only
    refine ⟨w.dt, fun a u h => ?_, fun x hx => ?_, ?_, fun a u h => ?_⟩
    · by_cases q : a = p
      · subst q
        rw [upd_same] at h
        cases h
        exact .is e
      · rw [upd_ne q] at h
        exact w.sub a u h
    · obtain ⟨t1, t2⟩ := w.tape x hx
      refine ⟨t1, ?_⟩
      have : x ≠ p := fun z => c (by rw [← z]; exact hx)
      show upd F p o x = none
      rw [upd_ne this]
      exact t2
    · exact w.tabs
    · by_cases q : a = p
      · subst q
        rw [upd_same] at h
        cases h
        exact nt _ e
      · rw [upd_ne q] at h
        exact w.nt a u h
theorem le_freeze {F H : Hp} {p : Addr} (n : F p = none) : Le F (freezeO F H p) := by
  unfold freezeO
  cases e : H p with
  | none => exact Le.refl F
  | some o => exact le_new n
theorem tape_nn {F H : Hp} (w : Wd d F H) {p : Addr} (h : H p = none) : d ≠ some p := fun z => by
  obtain ⟨D, M, hd, _⟩ := (w.tape p z).1
  rw [h] at hd
  cases hd
theorem nn_tape {F H F' H' : Hp} (u : Up d F H F' H') (w : Wd d F H) {p : Addr} (h : H p = none) : d ≠ some p := tape_nn w h
/-- a new thing, let go at once -/
theorem SO.se (h : SO d ta ma) : SE d ta ma := by
  intro F H σ σ' st k hk Q q
  refine h F H σ σ' st k hk Q fun p x F' H' u np nf ow hx => ?_
  have c := tape_nn st.wd np
  refine q (.ref p) x (freezeO F' H' p) H' ⟨u.f.trans (le_freeze nf), u.keep, u.there, fun a ha => ?_, freeze_wd u.wd nf c fun o e => ow.nt e⟩ (own_rt nf ow) hx
  rw [← u.fresh a ha]
  have : a ≠ p := fun z => ha (by rw [z]; exact np)
  unfold freezeO
  cases e : H' p with
  | none => rfl
  | some o => exact upd_ne this

/-! ### names, constants -/
def mVar (i : Nat) : ME := fun σ k => match σ[i]? with
  | some (.val t) => k t
  | _ => false
theorem s_var {i : Nat} : SE d (tVar i) (mVar i) := by
  intro F H σ σ' st k hk Q q
  unfold mVar at hk
  split at hk
  · rename_i t e
    obtain ⟨v, h1, h2⟩ := st.at e
    exact ⟨v, h1, q v t F H (Up.refl st.wd) h2 hk⟩
  · cases hk
def mC (t : T) : ME := fun _ k => k t
theorem s_C {v : V} {t : T} (h : ∀ F, RT F v t) : SE d (tC v) (mC t) := fun F H σ σ' st k hk Q q => q v t F H (Up.refl st.wd) (h F) hk

/-! ### lists of arguments -/
def mNil : MA := fun _ k => k []
def mCons (m : ME) (r : MA) : MA := fun σ k => m σ fun x => r σ fun xs => k (x :: xs)
theorem s_nil : SA d tNil mNil := fun F H σ σ' st k hk Q q => q [] [] F H (Up.refl st.wd) .nil hk
theorem s_cons {tr : TA} {mr : MA} (ha : SE d ta ma) (hr : SA d tr mr) : SA d (tCons ta tr) (mCons ma mr) := by
  intro F H σ σ' st k hk Q q
  refine ha F H σ σ' st _ hk _ fun v x F1 H1 u1 r1 h1 => ?_
  refine hr F1 H1 σ σ' (st.up u1) _ h1 _ fun vs xs F2 H2 u2 r2 h2 => ?_
  exact q _ _ F2 H2 (u1.trans u2 st.wd) (.cons (r1.mono u2.f) r2) h2
/-- two values, one after the other -/
theorem two (st : ∀ {F H σ σ'}, Sts d F H σ' σ → True) (ha : SE d ta ma) (hb : SE d tb mb) {F H : Hp} {σ : L2.St} {σ' : Sg} (s : Sts d F H σ' σ) {k : T → T → Bool} (hk : (ma σ' fun x => mb σ' fun y => k x y) = true) {R : V → V → Hp → Prop}
    (q : ∀ v w x y F' H', Up d F H F' H' → RT F' v x → RT F' w y → k x y = true → R v w H') : ta σ H fun v H1 => tb σ H1 fun w H2 => R v w H2 := by
  refine ha F H σ σ' s _ hk _ fun v x F1 H1 u1 r1 h1 => ?_
  refine hb F1 H1 σ σ' (s.up u1) _ h1 _ fun w y F2 H2 u2 r2 h2 => ?_
  exact q v w x y F2 H2 (u1.trans u2 s.wd) (r1.mono u2.f) r2 h2

/-! ### displays -/
def mTup (r : MA) : ME := fun σ k => r σ fun xs => decide (xs.length ≤ 16777216) && k (.tup xs)
def mLst (r : MA) : ME := fun σ k => r σ fun xs => decide (xs.length ≤ 16777216) && k (.lst xs)
theorem new_wd {F H : Hp} {p : Addr} {o : HO} (w : Wd d F H) (h : H p = none) : Wd d F (upd H p o) := by
  refine ⟨w.dt, fun a u e => ?_, fun x hx => ?_, tabs_new w.tabs h, w.nt⟩
  · rcases w.sub a u e with z | ⟨ob, kvs, c, z⟩
    · exact .is (by rw [upd_ne (ne_of_none z h)]; exact z)
    · exact .lock ob kvs c (by rw [upd_ne (ne_of_none z h)]; exact z)
  · obtain ⟨⟨D, M, hd, tp⟩, t2⟩ := w.tape x hx
    exact ⟨⟨D, M, by rw [upd_ne (ne_of_none hd h)]; exact hd, tp⟩, t2⟩
theorem f_none {F H : Hp} {p : Addr} (w : Wd d F H) (h : H p = none) : F p = none := by
  cases e : F p with
  | none => rfl
  | some o =>
    rcases w.sub p o e with z | ⟨ob, kvs, c, z⟩
    · rw [h] at z; cases z
    · rw [h] at z; cases z
theorem there_upd {H : Hp} {p : Addr} {o : HO} : ∀ a, H a ≠ none → upd H p o a ≠ none := fun a ha => by
  by_cases e : a = p
  · rw [e, upd_same]
    exact fun z => nomatch z
  · rw [upd_ne e]
    exact ha
theorem there_new {H : Hp} {p : Addr} {o : HO} (h : H p = none) : ∀ a, H a ≠ none → upd H p o a ≠ none := there_upd
theorem up_new {F H : Hp} {p : Addr} {o : HO} (w : Wd d F H) (h : H p = none) : Up d F H F (upd H p o) :=
  ⟨Le.refl F, fun a u _ _ e => by rw [upd_ne (ne_of_none e h)]; exact e, there_new h, fun _ _ => rfl, new_wd w h⟩
/-- a new thing that stands from now on -/
theorem up_lay {F H : Hp} {p : Addr} {o : HO} (w : Wd d F H) (h : H p = none) (nt : Nt o := by first | exact nt_frz _ _ | exact nt_tup _ | exact nt_lst _ | exact nt_dK _) : Up d F H (upd F p o) (upd H p o) := by
  have nf := f_none w h
  have c := tape_nn w h
  refine ⟨le_new nf, fun a u _ _ e => by rw [upd_ne (ne_of_none e h)]; exact e, there_new h, fun a ha => upd_ne (fun z => ha (by rw [z]; exact h)), ?_⟩
  have := freeze_wd (new_wd (o := o) w h) nf c fun o' e => by rw [upd_same] at e; cases e; exact nt
  unfold freezeO at this
  rw [upd_same] at this
  exact this
theorem s_tup {t : TA} {m : MA} (h : SA d t m) : SE d (tTupB t) (mTup m) := by
  intro F H σ σ' st k hk Q q
  refine h F H σ σ' st _ hk _ fun vs xs F1 H1 u1 r1 h1 => ?_
  rw [Bool.and_eq_true, decide_eq_true_eq] at h1
  refine ⟨by rw [r1.len, sizeLine_eq]; exact h1.1, fun p ob hp hb => ?_⟩
  have u2 := up_lay (o := .frz ob (.tup vs)) u1.wd hp
  exact q _ _ _ _ (u1.trans u2 st.wd) (.tup (.inl ⟨ob, hb, upd_same⟩) (r1.mono u2.f)) h1.2
/-- a tuple that is looked at only -/
def mTupL (r : MA) : ME := fun σ k => r σ fun xs => decide (xs.length ≤ 16777216) && k (.tpl xs)
theorem s_tupL {t : TA} {m : MA} (h : SA d t m) : SE d (tTup t) (mTupL m) := by
  intro F H σ σ' st k hk Q q
  refine h F H σ σ' st _ hk _ fun vs xs F1 H1 u1 r1 h1 => ?_
  rw [Bool.and_eq_true, decide_eq_true_eq] at h1
  refine ⟨by rw [r1.len, sizeLine_eq]; exact h1.1, fun p hp => ?_⟩
  have u2 := up_lay (o := .tup vs) u1.wd hp
  exact q _ _ _ _ (u1.trans u2 st.wd) (.tpl upd_same (r1.mono u2.f)) h1.2
theorem o_lst {t : TA} {m : MA} (h : SA d t m) : SO d (tLst t) (mLst m) := by
  intro F H σ σ' st k hk Q q
  refine h F H σ σ' st _ hk _ fun vs xs F1 H1 u1 r1 h1 => ?_
  rw [Bool.and_eq_true, decide_eq_true_eq] at h1
  refine ⟨by rw [r1.len, sizeLine_eq]; exact h1.1, fun p hp => ?_⟩
  have hp0 : H p = none := by
    cases e : H p with
    | none => rfl
    | some o => exact absurd hp (u1.there p (by rw [e]; exact fun z => nomatch z))
  exact q p _ F1 _ (u1.trans (up_new u1.wd hp) st.wd) hp0 (f_none u1.wd hp) (show OwnAt F1 (upd H1 p (.lst vs)) p (.lst xs) from ⟨vs, upd_same, r1⟩) h1.2
end
end Tr
set_option maxRecDepth 100000
set_option maxHeartbeats 4000000
/-! Trees: operators, tests, calls of built-ins, subscripts. -/
namespace Tr
open PySem PySem.Spec PyProof.Rows L2 Tm
variable [Cl] [Tt]
section
variable {d : Option Addr} {ta tb tc te : TE} {ma mb mc me : ME}
/-! ### operators -/
abbrev O2 := T → T → (T → Bool) → Bool
def OpS (d : Option Addr) (r : R2) (o : O2) : Prop := ∀ F H v w x y, Wd d F H → RT F v x → RT F w y → ∀ k : T → Bool, o x y k = true → ∀ Q : VK,
  (∀ u z F' H', Up d F H F' H' → RT F' u z → k z = true → Q u H') → r v w H Q
/-- an operator that makes a new thing -/
def OpN (d : Option Addr) (r : R2) (o : O2) : Prop := ∀ F H v w x y, Wd d F H → RT F v x → RT F w y → ∀ k : T → Bool, o x y k = true → ∀ Q : VK,
  (∀ p z F' H', Up d F H F' H' → H p = none → F' p = none → OwnAt F' H' p z → k z = true → Q (.ref p) H') → r v w H Q
def mOp (o : O2) (ma mb : ME) : ME := fun σ k => ma σ fun x => mb σ fun y => o x y k
theorem none_back {F H F' H' : Hp} (u : Up d F H F' H') (w : Wd d F H) {p : Addr} (h : H' p = none) : H p = none := by
  cases e : H p with
  | none => rfl
  | some o => exact absurd h (u.there p (by rw [e]; exact fun z => nomatch z))
theorem s_op {r : R2} {o : O2} (h : OpS d r o) (ha : SE d ta ma) (hb : SE d tb mb) : SE d (tOp r ta tb) (mOp o ma mb) := by
  intro F H σ σ' st k hk Q q
  refine ha F H σ σ' st _ hk _ fun v x F1 H1 u1 r1 h1 => ?_
  refine hb F1 H1 σ σ' (st.up u1) _ h1 _ fun w y F2 H2 u2 r2 h2 => ?_
  refine h F2 H2 v w x y u2.wd (r1.mono u2.f) r2 k h2 Q fun u z F3 H3 u3 r3 h3 => ?_
  exact q u z F3 H3 ((u1.trans u2 st.wd).trans u3 st.wd) r3 h3
theorem o_op {r : R2} {o : O2} (h : OpN d r o) (ha : SE d ta ma) (hb : SE d tb mb) : SO d (tOp r ta tb) (mOp o ma mb) := by
  intro F H σ σ' st k hk Q q
  refine ha F H σ σ' st _ hk _ fun v x F1 H1 u1 r1 h1 => ?_
  refine hb F1 H1 σ σ' (st.up u1) _ h1 _ fun w y F2 H2 u2 r2 h2 => ?_
  refine h F2 H2 v w x y u2.wd (r1.mono u2.f) r2 k h2 Q fun p z F3 H3 u3 n1 n2 r3 h3 => ?_
  have u12 := u1.trans u2 st.wd
  exact q p z F3 H3 (u12.trans u3 st.wd) (none_back u12 st.wd n1) n2 r3 h3
def oI0 (g : Int → Int → T) : O2 := fun x y k => match x, y with
  | .int i, .int j => k (g i j)
  | _, _ => false
theorem os_I0 {g : Int → Int → V} {g' : Int → Int → T} (h : ∀ F i j, RT F (g i j) (g' i j)) : OpS d (rI0 g) (oI0 g') := by
  intro F H v w x y wd rx ry k hk Q q
  unfold oI0 at hk
  split at hk
  · rename_i i j
    cases rx
    cases ry
    exact ⟨i, j, rfl, rfl, q _ _ F H (Up.refl wd) (h F i j) hk⟩
  · cases hk
def oI (c : Int → Int → Bool) (g : Int → Int → T) : O2 := fun x y k => match x, y with
  | .int i, .int j => c i j && k (g i j)
  | _, _ => false
theorem os_I {C : Int → Int → Prop} {c : Int → Int → Bool} {g : Int → Int → V} {g' : Int → Int → T} (hc : ∀ i j, c i j = true → C i j) (h : ∀ F i j, RT F (g i j) (g' i j)) : OpS d (rI C g) (oI c g') := by
  intro F H v w x y wd rx ry k hk Q q
  unfold oI at hk
  split at hk
  · rename_i i j
    rw [Bool.and_eq_true] at hk
    cases rx
    cases ry
    exact ⟨i, j, rfl, rfl, hc i j hk.1, q _ _ F H (Up.refl wd) (h F i j) hk.2⟩
  · cases hk
theorem os_add : OpS d (rI0 fun i j => .int (i + j)) (oI0 fun i j => .int (i + j)) := os_I0 fun _ _ _ => .int _
theorem os_sub : OpS d (rI0 fun i j => .int (i - j)) (oI0 fun i j => .int (i - j)) := os_I0 fun _ _ _ => .int _
def cMulB (i j : Int) : Bool := decide (i.natAbs.log2 + j.natAbs.log2 < 100000000)
theorem os_mulB : OpS d (rI CMulB fun i j => .int (i * j)) (oI cMulB fun i j => .int (i * j)) := os_I (fun i j h => by
  have h2 : i.natAbs.log2 + j.natAbs.log2 < 100000000 := of_decide_eq_true h
  exact h2) fun _ _ _ => .int _
theorem os_lt : OpS d (rI0 fun i j => .bl (decide (i < j))) (oI0 fun i j => .bl (decide (i < j))) := os_I0 fun _ _ _ => .bl _
theorem os_le : OpS d (rI0 fun i j => .bl (decide (i ≤ j))) (oI0 fun i j => .bl (decide (i ≤ j))) := os_I0 fun _ _ _ => .bl _
theorem os_gt : OpS d (rI0 fun i j => .bl (decide (j < i))) (oI0 fun i j => .bl (decide (j < i))) := os_I0 fun _ _ _ => .bl _
theorem os_ge : OpS d (rI0 fun i j => .bl (decide (j ≤ i))) (oI0 fun i j => .bl (decide (j ≤ i))) := os_I0 fun _ _ _ => .bl _
/-- a scalar's value -/
def sv : T → Option V
  | .non => some .non
  | .bl b => some (.bl b)
  | .int i => some (.int i)
  | .str z => some (.str z)
  | _ => none
theorem sv_rt {F : Hp} {v u : V} {t : T} (r : RT F v t) (e : sv t = some u) : v = u := by
  cases r with
  | non => exact Option.some.inj e
  | bl b => exact Option.some.inj e
  | int i => exact Option.some.inj e
  | str z => exact Option.some.inj e
  | ty z => cases e
  | cls z => cases e
  | tape _ => cases e
  | tup _ _ => cases e
  | tpl _ _ => cases e
  | lst _ _ => cases e
  | dic _ _ => cases e
  | ins _ _ => cases e
/-- equal texts -/
def eqZ (a b : Str) : Bool := a.cps.toList == b.cps.toList
theorem eqZ_eq (a b : Str) : eqZ a b = decide (a = b) := by
  unfold eqZ
  rw [Bool.eq_iff_iff, beq_iff_eq, decide_eq_true_eq]
  refine ⟨fun h => ?_, fun h => by rw [h]⟩
  obtain ⟨x⟩ := a
  obtain ⟨y⟩ := b
  exact congrArg Str.mk (Array.toList_inj.mp h)
def eqSV : V → V → Bool
  | .str a, .str b => eqZ a b
  | .int i, .int j => i == j
  | x, y => decide (x = y)
theorem eqSV_eq (x y : V) : eqSV x y = decide (x = y) := by
  unfold eqSV
  split
  · rw [eqZ_eq]
    exact decide_eq_decide.mpr ⟨fun h => by rw [h], fun h => V.str.inj h⟩
  · rw [Bool.eq_iff_iff, beq_iff_eq, decide_eq_true_eq]
    exact ⟨fun h => by rw [h], fun h => V.int.inj h⟩
  · rfl
def oEq : O2 := fun x y k => match sv x, sv y with
  | some a, some b => L2.scal a b && k (.bl (eqSV a b))
  | _, _ => false
def oNe : O2 := fun x y k => match sv x, sv y with
  | some a, some b => L2.scal a b && k (.bl (!eqSV a b))
  | _, _ => false
theorem os_eq : OpS d rEq oEq := by
  intro F H v w x y wd rx ry k hk Q q
  unfold oEq at hk
  split at hk
  · rename_i a b ea eb
    rw [Bool.and_eq_true] at hk
    obtain rfl := sv_rt rx ea
    obtain rfl := sv_rt ry eb
    rw [eqSV_eq] at hk
    exact ⟨hk.1, q _ _ F H (Up.refl wd) (.bl _) hk.2⟩
  · cases hk
theorem os_ne : OpS d rNe oNe := by
  intro F H v w x y wd rx ry k hk Q q
  unfold oNe at hk
  split at hk
  · rename_i a b ea eb
    rw [Bool.and_eq_true] at hk
    obtain rfl := sv_rt rx ea
    obtain rfl := sv_rt ry eb
    rw [eqSV_eq] at hk
    exact ⟨hk.1, q _ _ F H (Up.refl wd) (.bl _) hk.2⟩
  · cases hk
/-! texts in their order -/
def ltL : List Nat → List Nat → Bool
  | _, [] => false
  | [], _ :: _ => true
  | a :: x, b :: y => Nat.blt a b || (a == b && ltL x y)
theorem ltL_eq : ∀ (x y : List Nat), ltL x y = decide (x < y)
  | x, [] => by
    unfold ltL
    exact (decide_eq_false (List.not_lt_nil x)).symm
  | [], b :: y => by
    unfold ltL
    exact (decide_eq_true (List.nil_lt_cons b y)).symm
  | a :: x, b :: y => by
    unfold ltL
    rw [ltL_eq x y, Bool.eq_iff_iff, Bool.or_eq_true, Bool.and_eq_true, beq_iff_eq, decide_eq_true_eq, decide_eq_true_eq, List.cons_lt_cons_iff]
    have : Nat.blt a b = true ↔ a < b := by
      unfold Nat.blt
      rw [Nat.ble_eq]
      exact Iff.rfl
    rw [this]
def ltZ (a b : Str) : Bool := ltL a.cps.toList b.cps.toList
def oS (g : Str → Str → Bool) : O2 := fun x y k => match x, y with
  | .str a, .str b => k (.bl (g a b))
  | _, _ => false
theorem os_S {g : Str → Str → Bool} {r : R2} (h : ∀ H Q a b, Q (.bl (g a b)) H → r (.str a) (.str b) H Q) : OpS d r (oS g) := by
  intro F H v w x y wd rx ry k hk Q q
  unfold oS at hk
  split at hk
  · rename_i a b
    cases rx
    cases ry
    exact h H Q a b (q _ _ F H (Up.refl wd) (.bl _) hk)
  · cases hk
theorem os_ltS : OpS d (fun x y H Q => ∃ i j, x = .str i ∧ y = .str j ∧ Q (.bl (decide (i.cps.toList < j.cps.toList))) H) (oS ltZ) := os_S fun H Q a b h => ⟨a, b, rfl, rfl, by rw [← ltL_eq]; exact h⟩
theorem os_leS : OpS d (fun x y H Q => ∃ i j, x = .str i ∧ y = .str j ∧ Q (.bl (!decide (j.cps.toList < i.cps.toList))) H) (oS fun a b => !ltZ b a) := os_S fun H Q a b h => ⟨a, b, rfl, rfl, by rw [← ltL_eq]; exact h⟩
theorem os_gtS : OpS d (fun x y H Q => ∃ i j, x = .str i ∧ y = .str j ∧ Q (.bl (decide (j.cps.toList < i.cps.toList))) H) (oS fun a b => ltZ b a) := os_S fun H Q a b h => ⟨a, b, rfl, rfl, by rw [← ltL_eq]; exact h⟩
theorem os_geS : OpS d (fun x y H Q => ∃ i j, x = .str i ∧ y = .str j ∧ Q (.bl (!decide (i.cps.toList < j.cps.toList))) H) (oS fun a b => !ltZ a b) := os_S fun H Q a b h => ⟨a, b, rfl, rfl, by rw [← ltL_eq]; exact h⟩

/-! ### lists that are read -/
theorem rd_sql {F H : Hp} {a : Addr} {vs : List V} (w : Wd d F H) (e : F a = some (.lst vs)) : SqL Cl.K H a vs := .inl (w.sub a _ e).rd
theorem rd_lst {F H : Hp} {a : Addr} {vs : List V} (w : Wd d F H) (e : F a = some (.lst vs)) : H a = some (.lst vs) := by
  cases w.sub a _ e with
  | is h => exact h
  | lock _ _ c _ => cases c
theorem rd_ins {F H : Hp} {a C dx : Addr} {vs : List (Str × V)} (w : Wd d F H) (e : F a = some (.ins C dx vs)) : H a = some (.ins C dx vs) := by
  cases w.sub a _ e with
  | is h => exact h
  | lock _ _ c _ => cases c
theorem rd_sqt {F H : Hp} {a : Addr} {vs : List V} (w : Wd d F H) (e : TupAt F a vs) : SqT Cl.K H a vs := by
  rcases e with ⟨ob, _, e⟩ | ⟨k, e⟩
  · cases w.sub a _ e with
    | is h => exact .inl (.inr ⟨ob, h⟩)
    | lock _ _ c _ => cases c
  · obtain ⟨o, n, h1, h2, h3, _⟩ := Cl.ok a k
    subst e
    exact .inr ⟨o, #[], n, h1, h2, h3, Nat.zero_le _, .nil⟩
theorem rd_bare {F H : Hp} {a : Addr} {vs : List V} (w : Wd d F H) (e : TupAt F a vs) : BareAt Cl.K H a vs := by
  rcases e with ⟨ob, z, e⟩ | ⟨k, e⟩
  · cases w.sub a _ e with
    | is h => exact .inl ⟨ob, z, h⟩
    | lock _ _ c _ => cases c
  · obtain ⟨o, n, h1, h2, h3, h4⟩ := Cl.ok a k
    exact .inr ⟨e, o, n, h1, h2, h3, h4⟩
theorem rd_tpl {F H : Hp} {a : Addr} {vs : List V} (w : Wd d F H) (e : F a = some (.tup vs)) : H a = some (.tup vs) := by
  cases w.sub a _ e with
  | is h => exact h
  | lock _ _ c _ => cases c
theorem rd_sqp {F H : Hp} {a : Addr} {vs : List V} (w : Wd d F H) (e : F a = some (.tup vs)) : SqT Cl.K H a vs := .inl (.inl (rd_tpl w e))
/-! x in xs, of scalars -/
def svs : List T → Option (List V)
  | [] => some []
  | t :: ts => match sv t, svs ts with
    | some v, some vs => some (v :: vs)
    | _, _ => none
theorem svs_rt {F : Hp} : ∀ {ts : List T} {vs us : List V}, RTs F vs ts → svs ts = some us → vs = us
  | [], _, _, r, e => by
    cases r
    exact Option.some.inj e
  | t :: ts, _, us, r, e => by
    cases r with
    | cons r1 r2 =>
      unfold svs at e
      split at e
      · rename_i v vs e1 e2
        rw [← Option.some.inj e, sv_rt r1 e1, svs_rt r2 e2]
      · cases e
def oIn (neg : Bool) : O2 := fun x y k => match sv x, (match y with | .lst ts => svs ts | .tup ts => svs ts | _ => none) with
  | some a, some xs => flatV a && xs.all flatV && k (.bl (if neg then !inV a xs else inV a xs))
  | _, _ => false
theorem os_in {neg : Bool} : OpS d (rIn Cl.K neg) (oIn neg) := by
  intro F H v w x y wd rx ry k hk Q q
  unfold oIn at hk
  split at hk
  · rename_i a xs ea exs
    rw [Bool.and_eq_true, Bool.and_eq_true] at hk
    obtain rfl := sv_rt rx ea
    cases ry with
    | lst e r =>
      obtain rfl := svs_rt r exs
      exact ⟨_, _, rfl, .inl (rd_sql wd e), hk.1.1, hk.1.2, q _ _ F H (Up.refl wd) (.bl _) hk.2⟩
    | tup e r =>
      obtain rfl := svs_rt r exs
      exact ⟨_, _, rfl, .inr (rd_sqt wd e), hk.1.1, hk.1.2, q _ _ F H (Up.refl wd) (.bl _) hk.2⟩
    | non => cases exs
    | bl _ => cases exs
    | int _ => cases exs
    | str _ => cases exs
    | ty _ => cases exs
    | cls _ => cases exs
    | tape _ => cases exs
    | dic _ _ => cases exs
    | tpl _ _ => cases exs
    | ins _ _ => cases exs
  · cases hk
/-! data of any depth, compared -/
mutual
def T.data : T → Option PyData
  | .non => some .none
  | .bl b => some (.bool b)
  | .int i => some (.int i)
  | .str z => some (.str z)
  | .tup ts => match T.datas ts with
    | some ds => some (.tuple ds)
    | none => none
  | .tpl ts => match T.datas ts with
    | some ds => some (.tuple ds)
    | none => none
  | .lst ts => match T.datas ts with
    | some ds => some (.list ds)
    | none => none
  | .dic _ => none
  | .ins _ _ => none
  | .ty _ => none
  | .cls _ => none
  | .tape => none
def T.datas : List T → Option (List PyData)
  | [] => some []
  | t :: ts => match T.data t, T.datas ts with
    | some d, some ds => some (d :: ds)
    | _, _ => none
end
mutual
theorem dp_of {F H : Hp} (w : Wd d F H) : ∀ {t : T} {v : V} {e : PyData}, RT F v t → T.data t = some e → Dp Cl.K H v e
  | .non, _, _, r, h => by cases r; cases h; exact .non
  | .bl b, _, _, r, h => by cases r; cases h; exact .bl b
  | .int i, _, _, r, h => by cases r; cases h; exact .int i
  | .str z, _, _, r, h => by cases r; cases h; exact .str z
  | .tup ts, _, _, r, h => by
    cases r with
    | tup e r =>
      unfold T.data at h
      split at h
      · rename_i ds hd
        cases h
        exact .tup (rd_sqt w e) (dps_of w r hd)
      · cases h
  | .tpl ts, _, _, r, h => by
    cases r with
    | tpl e r =>
      unfold T.data at h
      split at h
      · rename_i ds hd
        cases h
        exact .tup (rd_sqp w e) (dps_of w r hd)
      · cases h
  | .lst ts, _, _, r, h => by
    cases r with
    | lst e r =>
      unfold T.data at h
      split at h
      · rename_i ds hd
        cases h
        exact .lst (rd_sql w e) (dps_of w r hd)
      · cases h
  | .dic _, _, _, _, h => by cases h
  | .ins _ _, _, _, _, h => by cases h
  | .ty _, _, _, _, h => by cases h
  | .cls _, _, _, _, h => by cases h
  | .tape, _, _, _, h => by cases h
theorem dps_of {F H : Hp} (w : Wd d F H) : ∀ {ts : List T} {vs : List V} {es : List PyData}, RTs F vs ts → T.datas ts = some es → DpAll Cl.K H vs es
  | [], _, _, r, h => by
    cases r
    unfold T.datas at h
    cases h
    exact .nil
  | t :: ts, _, _, r, h => by
    cases r with
    | cons r1 r2 =>
      unfold T.datas at h
      split at h
      · rename_i d ds e1 e2
        cases h
        exact .cons (dp_of w r1 e1) (dps_of w r2 e2)
      · cases h
end
def oEqD : O2 := fun x y k => match T.data x, T.data y with
  | some a, some b => SeqAt.shaped a && SeqAt.shaped b && k (.bl (PyData.eqv a b))
  | _, _ => false
def oNeD : O2 := fun x y k => match T.data x, T.data y with
  | some a, some b => SeqAt.shaped a && SeqAt.shaped b && k (.bl (!PyData.eqv a b))
  | _, _ => false
theorem os_eqD : OpS d (rEqD Cl.K) oEqD := by
  intro F H v w x y wd rx ry k hk Q q
  unfold oEqD at hk
  split at hk
  · rename_i a b ea eb
    rw [Bool.and_eq_true, Bool.and_eq_true] at hk
    exact ⟨a, b, dp_of wd rx ea, dp_of wd ry eb, hk.1.1, hk.1.2, q _ _ F H (Up.refl wd) (.bl _) hk.2⟩
  · cases hk
theorem os_neD : OpS d (rNeD Cl.K) oNeD := by
  intro F H v w x y wd rx ry k hk Q q
  unfold oNeD at hk
  split at hk
  · rename_i a b ea eb
    rw [Bool.and_eq_true, Bool.and_eq_true] at hk
    exact ⟨a, b, dp_of wd rx ea, dp_of wd ry eb, hk.1.1, hk.1.2, q _ _ F H (Up.refl wd) (.bl _) hk.2⟩
  · cases hk
/-! is None -/
def isN : T → Bool
  | .non => true
  | _ => false
theorem isN_rt {F : Hp} {v : V} {t : T} (r : RT F v t) : decide (v = .non) = isN t := by
  cases r <;> first | rfl | exact decide_eq_false (fun z => nomatch z)

/-! ### new lists -/
def oCat : O2 := fun x y k => match x, y with
  | .lst a, .lst b => decide (a.length + b.length ≤ 16777216) && k (.lst (a ++ b))
  | _, _ => false
theorem on_cat : OpN d rCat oCat := by
  intro F H v w x y wd rx ry k hk Q q
  unfold oCat at hk
  split at hk
  · rename_i a b
    rw [Bool.and_eq_true, decide_eq_true_eq] at hk
    cases rx with
    | lst e1 r1 =>
      cases ry with
      | lst e2 r2 =>
        refine ⟨_, _, _, _, rfl, rfl, rd_lst wd e1, rd_lst wd e2, by rw [r1.len, r2.len, sizeLine_eq]; exact hk.1, fun p hp => ?_⟩
        exact q p _ F _ (up_new wd hp) hp (f_none wd hp) (show OwnAt F (upd H p _) p (.lst (a ++ b)) from ⟨_, upd_same, r1.append r2⟩) hk.2
  · cases hk
/-- tuple + tuple -/
def oCatT : O2 := fun x y k => match x, y with
  | .tup a, .tup b => decide (a.length + b.length ≤ 16777216) && k (.tup (a ++ b))
  | _, _ => false
theorem os_catT : OpS d (rCatB Cl.K) oCatT := by
  intro F H v w x y wd rx ry k hk Q q
  unfold oCatT at hk
  split at hk
  · rename_i a b
    rw [Bool.and_eq_true, decide_eq_true_eq] at hk
    cases rx with
    | tup e1 r1 =>
      cases ry with
      | tup e2 r2 =>
        rename_i p1 vs p2 ws
        refine ⟨_, _, _, _, rfl, rfl, rd_sqt wd e1, rd_sqt wd e2, by rw [r1.len, r2.len, sizeLine_eq]; exact hk.1, fun h => ?_, fun h1 h2 => ?_, fun h1 h2 p ob hp hb => ?_⟩
        · subst h
          cases r1
          exact q _ _ F H (Up.refl wd) (.tup e2 r2) hk.2
        · subst h2
          cases r2
          have e3 : a ++ [] = a := List.append_nil a
          exact q _ _ F H (Up.refl wd) (.tup e1 (by rw [e3]; exact r1)) hk.2
        · have u := up_lay (o := .frz ob (.tup (vs ++ ws))) wd hp
          exact q _ _ _ _ u (.tup (.inl ⟨ob, hb, upd_same⟩) ((r1.append r2).mono u.f)) hk.2
  · cases hk
/-! ### tests -/
theorem t_B (h : SE d te me) : ST d (tB te) (fun σ k => me σ fun x => match x with | .bl b => k b | _ => false) := by
  intro F H σ σ' st k hk Q q
  refine h F H σ σ' st _ hk _ fun v x F1 H1 u1 r1 h1 => ?_
  split at h1
  · cases r1
    exact ⟨_, rfl, q _ F1 H1 u1 h1⟩
  · cases h1
def mTB (m : ME) : MT := fun σ k => m σ fun x => match x with | .bl b => k b | _ => false
theorem t_b (h : SE d te me) : ST d (tB te) (mTB me) := t_B h
theorem t_test (h : SE d te me) : ST d (tTest te) (mTB me) := t_B h
def mNot (m : MT) : MT := fun σ k => m σ fun b => k (!b)
def mAnd (m n : MT) : MT := fun σ k => m σ fun b => if b then n σ k else k false
def mOr (m n : MT) : MT := fun σ k => m σ fun b => if b then k true else n σ k
section
variable {t u : TT} {m n : MT}
theorem t_not (h : ST d t m) : ST d (tNot t) (mNot m) := by
  intro F H σ σ' st k hk Q q
  exact h F H σ σ' st _ hk _ fun b F1 H1 u1 h1 => q _ F1 H1 u1 h1
theorem t_and (h : ST d t m) (g : ST d u n) : ST d (tAnd t u) (mAnd m n) := by
  intro F H σ σ' st k hk Q q
  refine h F H σ σ' st _ hk _ fun b F1 H1 u1 h1 => ?_
  cases b with
  | true => exact iteT (g F1 H1 σ σ' (st.up u1) _ h1 _ fun c F2 H2 u2 h2 => q _ F2 H2 (u1.trans u2 st.wd) h2)
  | false => exact iteF (q _ F1 H1 u1 h1)
theorem t_or (h : ST d t m) (g : ST d u n) : ST d (tOr t u) (mOr m n) := by
  intro F H σ σ' st k hk Q q
  refine h F H σ σ' st _ hk _ fun b F1 H1 u1 h1 => ?_
  cases b with
  | true => exact iteT (q _ F1 H1 u1 h1)
  | false => exact iteF (g F1 H1 σ σ' (st.up u1) _ h1 _ fun c F2 H2 u2 h2 => q _ F2 H2 (u1.trans u2 st.wd) h2)
theorem t_yes : ST d tYes (fun _ k => k true) := fun F H σ σ' st k hk Q q => q true F H (Up.refl st.wd) hk
def mIf (t : MT) (a b : ME) : ME := fun σ k => t σ fun c => if c then a σ k else b σ k
theorem s_if (h : ST d t m) (ha : SE d ta ma) (hb : SE d tb mb) : SE d (tIf t ta tb) (mIf m ma mb) := by
  intro F H σ σ' st k hk Q q
  refine h F H σ σ' st _ hk _ fun b F1 H1 u1 h1 => ?_
  cases b with
  | true => exact iteT (ha F1 H1 σ σ' (st.up u1) _ h1 _ fun v x F2 H2 u2 r2 h2 => q _ _ F2 H2 (u1.trans u2 st.wd) r2 h2)
  | false => exact iteF (hb F1 H1 σ σ' (st.up u1) _ h1 _ fun v x F2 H2 u2 r2 h2 => q _ _ F2 H2 (u1.trans u2 st.wd) r2 h2)
end
def mAndV (a b : ME) : ME := fun σ k => a σ fun x => match x with | .bl c => (if c then b σ k else k (.bl false)) | _ => false
def mOrV (a b : ME) : ME := fun σ k => a σ fun x => match x with | .bl c => (if c then k (.bl true) else b σ k) | _ => false
def mNotV (a : ME) : ME := fun σ k => a σ fun x => match x with | .bl c => k (.bl (!c)) | _ => false
theorem s_andV (ha : SE d ta ma) (hb : SE d tb mb) : SE d (tAndV ta tb) (mAndV ma mb) := by
  intro F H σ σ' st k hk Q q
  refine ha F H σ σ' st _ hk _ fun v x F1 H1 u1 r1 h1 => ?_
  split at h1
  · rename_i c
    cases r1
    refine ⟨c, rfl, ?_⟩
    cases c with
    | true => exact iteT (hb F1 H1 σ σ' (st.up u1) _ h1 _ fun v x F2 H2 u2 r2 h2 => q _ _ F2 H2 (u1.trans u2 st.wd) r2 h2)
    | false => exact iteF (q _ _ F1 H1 u1 (.bl _) h1)
  · cases h1
theorem s_orV (ha : SE d ta ma) (hb : SE d tb mb) : SE d (tOrV ta tb) (mOrV ma mb) := by
  intro F H σ σ' st k hk Q q
  refine ha F H σ σ' st _ hk _ fun v x F1 H1 u1 r1 h1 => ?_
  split at h1
  · rename_i c
    cases r1
    refine ⟨c, rfl, ?_⟩
    cases c with
    | true => exact iteT (q _ _ F1 H1 u1 (.bl _) h1)
    | false => exact iteF (hb F1 H1 σ σ' (st.up u1) _ h1 _ fun v x F2 H2 u2 r2 h2 => q _ _ F2 H2 (u1.trans u2 st.wd) r2 h2)
  · cases h1
theorem s_notV (ha : SE d ta ma) : SE d (tNotV ta) (mNotV ma) := by
  intro F H σ σ' st k hk Q q
  refine ha F H σ σ' st _ hk _ fun v x F1 H1 u1 r1 h1 => ?_
  split at h1
  · cases r1
    exact ⟨_, rfl, q _ _ F1 H1 u1 (.bl _) h1⟩
  · cases h1
def mChain (o p : O2) (a b c : ME) : ME := fun σ k => a σ fun x => b σ fun y => o x y fun z => match z with
  | .bl f => if f then c σ fun w => p y w k else k (.bl false)
  | _ => false
theorem s_chain {r r' : R2} {o o' : O2} (h : OpS d r o) (h' : OpS d r' o') (ha : SE d ta ma) (hb : SE d tb mb) (hc : SE d tc mc) : SE d (tChain r r' ta tb tc) (mChain o o' ma mb mc) := by
  intro F H σ σ' st k hk Q q
  refine ha F H σ σ' st _ hk _ fun v x F1 H1 u1 r1 h1 => ?_
  refine hb F1 H1 σ σ' (st.up u1) _ h1 _ fun w y F2 H2 u2 r2 h2 => ?_
  have u12 := u1.trans u2 st.wd
  refine h F2 H2 v w x y u2.wd (r1.mono u2.f) r2 _ h2 _ fun u z F3 H3 u3 r3 h3 => ?_
  have u13 := u12.trans u3 st.wd
  split at h3
  · rename_i f
    cases r3
    refine ⟨f, rfl, ?_⟩
    cases f with
    | true =>
      refine iteT (hc F3 H3 σ σ' (st.up u13) _ h3 _ fun w' z' F4 H4 u4 r4 h4 => ?_)
      refine h' F4 H4 w w' y z' u4.wd ((r2.mono u3.f).mono u4.f) r4 _ h4 _ fun u5 z5 F5 H5 u5' r5 h5 => ?_
      exact q _ _ F5 H5 ((u13.trans u4 st.wd).trans u5' st.wd) r5 h5
    | false => exact iteF (q _ _ F3 H3 u13 (.bl _) h3)
  · cases h3
end
end Tr
set_option maxRecDepth 100000
set_option maxHeartbeats 4000000
/-! Trees: calls of built-ins, subscripts, dicts. -/
namespace Tr
open PySem PySem.Spec PyProof.Rows L2 Tm
variable [Cl] [Tt]
section
variable {d : Option Addr} {ta tb tc te : TE} {ma mb mc me : ME}
abbrev B1 := List T → (T → Bool) → Bool
def BS (d : Option Addr) (r : List V → Hp → VK → Prop) (b : B1) : Prop := ∀ F H vs xs, Wd d F H → RTs F vs xs → ∀ k : T → Bool, b xs k = true → ∀ Q : VK,
  (∀ u z F' H', Up d F H F' H' → RT F' u z → k z = true → Q u H') → r vs H Q
def BN (d : Option Addr) (r : List V → Hp → VK → Prop) (b : B1) : Prop := ∀ F H vs xs, Wd d F H → RTs F vs xs → ∀ k : T → Bool, b xs k = true → ∀ Q : VK,
  (∀ p z F' H', Up d F H F' H' → H p = none → F' p = none → OwnAt F' H' p z → k z = true → Q (.ref p) H') → r vs H Q
def mCB (b : B1) (m : MA) : ME := fun σ k => m σ fun xs => b xs k
section
variable {t : TA} {m : MA} {r : List V → Hp → VK → Prop} {b : B1}
theorem s_cb (h : BS d r b) (ha : SA d t m) : SE d (tCB r t) (mCB b m) := by
  intro F H σ σ' st k hk Q q
  refine ha F H σ σ' st _ hk _ fun vs xs F1 H1 u1 r1 h1 => ?_
  exact h F1 H1 vs xs u1.wd r1 k h1 Q fun u z F2 H2 u2 r2 h2 => q u z F2 H2 (u1.trans u2 st.wd) r2 h2
theorem o_cb (h : BN d r b) (ha : SA d t m) : SO d (tCB r t) (mCB b m) := by
  intro F H σ σ' st k hk Q q
  refine ha F H σ σ' st _ hk _ fun vs xs F1 H1 u1 r1 h1 => ?_
  exact h F1 H1 vs xs u1.wd r1 k h1 Q fun p z F2 H2 u2 n1 n2 r2 h2 => q p z F2 H2 (u1.trans u2 st.wd) (none_back u1 st.wd n1) n2 r2 h2
end
theorem rts1 {F : Hp} {vs : List V} {x : T} (r : RTs F vs [x]) : ∃ v, vs = [v] ∧ RT F v x := by
  cases r with
  | cons a b =>
    cases b
    exact ⟨_, rfl, a⟩
theorem rts2 {F : Hp} {vs : List V} {x y : T} (r : RTs F vs [x, y]) : ∃ v w, vs = [v, w] ∧ RT F v x ∧ RT F w y := by
  cases r with
  | cons a b =>
    obtain ⟨w, e, q⟩ := rts1 b
    exact ⟨_, w, by rw [e], a, q⟩
def bInt1 : B1 := fun xs k => match xs with
  | [.int i] => k (.int i)
  | _ => false
theorem bs_int1 : BS d rInt1 bInt1 := by
  intro F H vs xs wd r k hk Q q
  unfold bInt1 at hk
  split at hk
  · obtain ⟨v, rfl, r1⟩ := rts1 r
    cases r1
    exact ⟨_, rfl, q _ _ F H (Up.refl wd) (.int _) hk⟩
  · cases hk
def bLenQ : B1 := fun xs k => match xs with
  | [.lst ts] => k (.int ts.length)
  | [.tup ts] => k (.int ts.length)
  | [.tpl ts] => k (.int ts.length)
  | _ => false
theorem bs_lenQ : BS d (rLenQ Cl.K) bLenQ := by
  intro F H vs xs wd r k hk Q q
  unfold bLenQ at hk
  split at hk
  · obtain ⟨v, rfl, r1⟩ := rts1 r
    cases r1 with
    | lst e r => exact ⟨_, _, rfl, .inl (rd_sql wd e), q _ _ F H (Up.refl wd) (.int _) (by rw [r.len]; exact hk)⟩
  · obtain ⟨v, rfl, r1⟩ := rts1 r
    cases r1 with
    | tup e r => exact ⟨_, _, rfl, .inr (rd_sqt wd e), q _ _ F H (Up.refl wd) (.int _) (by rw [r.len]; exact hk)⟩
  · obtain ⟨v, rfl, r1⟩ := rts1 r
    cases r1 with
    | tpl e r => exact ⟨_, _, rfl, .inr (rd_sqp wd e), q _ _ F H (Up.refl wd) (.int _) (by rw [r.len]; exact hk)⟩
  · cases hk
def bLenS : B1 := fun xs k => match xs with
  | [.str z] => decide (z.cps.toList.length ≤ 16777216) && k (.int z.cps.toList.length)
  | _ => false
theorem bs_lenS : BS d rLenT bLenS := by
  intro F H vs xs wd r k hk Q q
  unfold bLenS at hk
  split at hk
  · rename_i z
    obtain ⟨v, rfl, r1⟩ := rts1 r
    cases r1
    rw [Bool.and_eq_true, decide_eq_true_eq] at hk
    have e : z.length = z.cps.toList.length := by unfold Str.length; exact (Array.length_toList).symm
    exact ⟨z, rfl, by rw [e, sizeLine_eq]; exact hk.1, q _ _ F H (Up.refl wd) (.int _) (by rw [e]; exact hk.2)⟩
  · cases hk
/-! isinstance, of the built-in classes -/
def tyN : T → Option String
  | .non => some "NoneType"
  | .bl _ => some "bool"
  | .int _ => some "int"
  | .str _ => some "str"
  | .tup _ => some "tuple"
  | .tpl _ => some "tuple"
  | .lst _ => some "list"
  | .dic _ => some "dict"
  | _ => none
theorem tyX_of {F H : Hp} {v : V} {t : T} {n : String} (w : Wd d F H) (r : RT F v t) (e : tyN t = some n) : TyX Cl.K H v (.type n) := by
  cases r with
  | non => cases e; exact .base .non
  | bl b => cases e; exact .base (.bl b)
  | int i => cases e; exact .base (.int i)
  | str z => cases e; exact .base (.str z)
  | ty _ => cases e
  | cls _ => cases e
  | tape _ => cases e
  | ins _ _ => cases e
  | tup f r =>
    cases e
    rcases f with ⟨ob, _, f⟩ | ⟨k, _⟩
    · cases w.sub _ _ f with
      | is h => exact .fTuple h
      | lock _ _ c _ => cases c
    · obtain ⟨o, n, h1, h2, _⟩ := Cl.ok _ k
      exact .kTuple h1 h2
  | tpl f r => cases e; exact .base (.tup (rd_tpl w f))
  | lst f r => cases e; exact .base (.lst (rd_lst w f))
  | dic f r =>
    cases e
    cases w.sub _ _ f with
    | is h => exact .base (.dK h)
    | lock ob kvs c h => exact .fDict h
def bIsi : B1 := fun xs k => match xs with
  | [x, .ty n] => match tyN x with
    | some m => match kitB m n with
      | some b => k (.bl b)
      | none => false
    | none => false
  | _ => false
theorem bs_isi : BS d (rIsi Cl.K) bIsi := by
  intro F H vs xs wd r k hk Q q
  unfold bIsi at hk
  split at hk
  · rename_i x n
    obtain ⟨v, w, rfl, r1, r2⟩ := rts2 r
    cases r2
    split at hk
    · rename_i m em
      split at hk
      · rename_i b eb
        exact ⟨_, _, _, _, b, rfl, .ty n, tyX_of wd r1 em, kit_ty eb, q _ _ F H (Up.refl wd) (.bl _) hk⟩
      · cases hk
    · cases hk
  · cases hk
/-- isinstance(x, (c1, c2)) -/
def allTy : List T → Bool
  | [] => true
  | .ty _ :: r => allTy r
  | _ => false
def anyB (m : String) : List T → Option Bool
  | [] => some false
  | .ty n :: r => match kitB m n with
    | some true => if allTy r then some true else none
    | some false => anyB m r
    | none => none
  | _ => none
def bIsiT : B1 := fun xs k => match xs with
  | [x, .tpl (c :: cs)] => match tyN x with
    | some m => match anyB m (c :: cs) with
      | some b => k (.bl b)
      | none => false
    | none => false
  | _ => false
theorem allTy_ok {F : Hp} : ∀ {cs : List T} {vs : List V}, RTs F vs cs → allTy cs = true → ∃ us, Paired ClsV vs us
  | [], _, r, _ => by
    cases r
    exact ⟨[], .nil⟩
  | c :: cs, _, r, e => by
    cases r with
    | cons r1 r2 =>
      cases c with
      | ty n =>
        cases r1
        obtain ⟨us, p⟩ := allTy_ok r2 e
        exact ⟨_, .cons (.ty n) p⟩
      | _ => cases e
theorem anyB_ok {F : Hp} {m : String} : ∀ {cs : List T} {vs : List V} {b : Bool}, RTs F vs cs → anyB m cs = some b → ∃ us, Paired ClsV vs us ∧ PySem.W.kitAny Cl.K (.type m) us = some b
  | [], _, b, r, e => by
    cases r
    cases e
    exact ⟨[], .nil, rfl⟩
  | c :: cs, _, b, r, e => by
    cases r with
    | cons r1 r2 =>
      cases c with
      | ty n =>
        cases r1
        unfold anyB at e
        split at e
        · rename_i eb
          split at e
          · rename_i al
            cases e
            obtain ⟨us, p⟩ := allTy_ok r2 al
            exact ⟨_, .cons (.ty n) p, kitAny_cons (b := true) (kit_ty eb) (fun e => nomatch e) (fun _ => rfl)⟩
          · cases e
        · rename_i eb
          obtain ⟨us, p, q⟩ := anyB_ok r2 e
          exact ⟨_, .cons (.ty n) p, kitAny_cons (b := false) (kit_ty eb) (fun _ => q) (fun e => nomatch e)⟩
        · cases e
      | _ => cases e
theorem bs_isiT : BS d (rIsiT Cl.K) bIsiT := by
  intro F H vs xs wd r k hk Q q
  unfold bIsiT at hk
  split at hk
  · rename_i x c cs
    obtain ⟨v, w, rfl, r1, r2⟩ := rts2 r
    split at hk
    · rename_i m em
      split at hk
      · rename_i b eb
        cases r2 with
        | tpl e r2 =>
          obtain ⟨us, p, ka⟩ := anyB_ok r2 eb
          cases r2 with
          | cons ra rb =>
          exact ⟨_, _, _, _, us, b, rfl, rd_tpl wd e, p, tyX_of wd r1 em, ka, q _ _ F H (Up.refl wd) (.bl _) hk⟩
      · cases hk
    · cases hk
  · cases hk
/-! all, any, sum, max, min -/
def bls : List T → Option (List Bool)
  | [] => some []
  | .bl b :: r => match bls r with
    | some bs => some (b :: bs)
    | none => none
  | _ => none
def tints : List T → Option (List Int)
  | [] => some []
  | .int b :: r => match tints r with
    | some bs => some (b :: bs)
    | none => none
  | _ => none
def tstrs : List T → Option (List Str)
  | [] => some []
  | .str b :: r => match tstrs r with
    | some bs => some (b :: bs)
    | none => none
  | _ => none
theorem bls_ok {F : Hp} : ∀ {ts : List T} {vs : List V} {bs : List Bool}, RTs F vs ts → bls ts = some bs → vs = bs.map V.bl
  | [], _, _, r, e => by cases r; cases e; rfl
  | t :: ts, _, bs, r, e => by
    cases r with
    | cons r1 r2 =>
      cases t with
      | bl b =>
        cases r1
        unfold bls at e
        split at e
        · rename_i bs' e'
          cases e
          rw [bls_ok r2 e']
          rfl
        · cases e
      | _ => cases e
theorem tints_ok {F : Hp} : ∀ {ts : List T} {vs : List V} {bs : List Int}, RTs F vs ts → tints ts = some bs → vs = bs.map V.int
  | [], _, _, r, e => by cases r; cases e; rfl
  | t :: ts, _, bs, r, e => by
    cases r with
    | cons r1 r2 =>
      cases t with
      | int b =>
        cases r1
        unfold tints at e
        split at e
        · rename_i bs' e'
          cases e
          rw [tints_ok r2 e']
          rfl
        · cases e
      | _ => cases e
theorem tstrs_ok {F : Hp} : ∀ {ts : List T} {vs : List V} {bs : List Str}, RTs F vs ts → tstrs ts = some bs → vs = bs.map V.str
  | [], _, _, r, e => by cases r; cases e; rfl
  | t :: ts, _, bs, r, e => by
    cases r with
    | cons r1 r2 =>
      cases t with
      | str b =>
        cases r1
        unfold tstrs at e
        split at e
        · rename_i bs' e'
          cases e
          rw [tstrs_ok r2 e']
          rfl
        · cases e
      | _ => cases e
theorem map_rts {α : Type} {F : Hp} {f : α → V} {g : α → T} (h : ∀ x, RT F (f x) (g x)) : ∀ l : List α, RTs F (l.map f) (l.map g)
  | [] => .nil
  | x :: l => .cons (h x) (map_rts h l)
def bAll : B1 := fun xs k => match xs with
  | [.lst ts] => match bls ts with
    | some bs => k (.bl (bs.all id))
    | none => false
  | _ => false
def bAny : B1 := fun xs k => match xs with
  | [.lst ts] => match bls ts with
    | some bs => k (.bl (bs.any id))
    | none => false
  | _ => false
theorem bs_all : BS d (rAll Cl.K) bAll := by
  intro F H vs xs wd r k hk Q q
  unfold bAll at hk
  split at hk
  · obtain ⟨v, rfl, r1⟩ := rts1 r
    split at hk
    · rename_i bs e
      cases r1 with
      | lst f r => exact ⟨_, bs, rfl, by rw [← bls_ok r e]; exact rd_sql wd f, q _ _ F H (Up.refl wd) (.bl _) hk⟩
    · cases hk
  · cases hk
theorem bs_any : BS d (rAny Cl.K) bAny := by
  intro F H vs xs wd r k hk Q q
  unfold bAny at hk
  split at hk
  · obtain ⟨v, rfl, r1⟩ := rts1 r
    split at hk
    · rename_i bs e
      cases r1 with
      | lst f r => exact ⟨_, bs, rfl, by rw [← bls_ok r e]; exact rd_sql wd f, q _ _ F H (Up.refl wd) (.bl _) hk⟩
    · cases hk
  · cases hk
def bSum : B1 := fun xs k => match xs with
  | [.lst ts] => match tints ts with
    | some bs => k (.int bs.sum)
    | none => false
  | _ => false
theorem bs_sum : BS d (rSum Cl.K) bSum := by
  intro F H vs xs wd r k hk Q q
  unfold bSum at hk
  split at hk
  · obtain ⟨v, rfl, r1⟩ := rts1 r
    split at hk
    · rename_i bs e
      cases r1 with
      | lst f r => exact ⟨_, bs, rfl, by rw [← tints_ok r e]; exact rd_sql wd f, q _ _ F H (Up.refl wd) (.int _) hk⟩
    · cases hk
  · cases hk
/-- the greatest, the least of a list that is not empty -/
def maxI : Int → List Int → Int
  | m, [] => m
  | m, x :: r => maxI (if m < x then x else m) r
def minI : Int → List Int → Int
  | m, [] => m
  | m, x :: r => minI (if x < m then x else m) r
theorem maxI_ok : ∀ (l : List Int) (m : Int), (maxI m l = m ∨ maxI m l ∈ l) ∧ m ≤ maxI m l ∧ ∀ y ∈ l, y ≤ maxI m l
  | [], m => ⟨.inl rfl, Int.le_refl m, fun _ h => nomatch h⟩
  | x :: l, m => by
    unfold maxI
    by_cases c : m < x
    · rw [if_pos c]
      obtain ⟨h1, h2, h3⟩ := maxI_ok l x
      refine ⟨.inr ?_, by omega, fun y hy => ?_⟩
      · rcases h1 with h | h
        · rw [h]
          exact .head _
        · exact .tail _ h
      · rcases List.mem_cons.mp hy with rfl | hy
        · exact h2
        · exact h3 y hy
    · rw [if_neg c]
      obtain ⟨h1, h2, h3⟩ := maxI_ok l m
      refine ⟨h1.elim .inl fun h => .inr (.tail _ h), h2, fun y hy => ?_⟩
      rcases List.mem_cons.mp hy with rfl | hy
      · omega
      · exact h3 y hy
theorem minI_ok : ∀ (l : List Int) (m : Int), (minI m l = m ∨ minI m l ∈ l) ∧ minI m l ≤ m ∧ ∀ y ∈ l, minI m l ≤ y
  | [], m => ⟨.inl rfl, Int.le_refl m, fun _ h => nomatch h⟩
  | x :: l, m => by
    unfold minI
    by_cases c : x < m
    · rw [if_pos c]
      obtain ⟨h1, h2, h3⟩ := minI_ok l x
      refine ⟨.inr ?_, by omega, fun y hy => ?_⟩
      · rcases h1 with h | h
        · rw [h]
          exact .head _
        · exact .tail _ h
      · rcases List.mem_cons.mp hy with rfl | hy
        · exact h2
        · exact h3 y hy
    · rw [if_neg c]
      obtain ⟨h1, h2, h3⟩ := minI_ok l m
      refine ⟨h1.elim .inl fun h => .inr (.tail _ h), h2, fun y hy => ?_⟩
      rcases List.mem_cons.mp hy with rfl | hy
      · omega
      · exact h3 y hy
theorem max_one {x m : Int} {l : List Int} (h : m ∈ x :: l) (g : ∀ y ∈ x :: l, y ≤ m) : m = maxI x l := by
  obtain ⟨h1, h2, h3⟩ := maxI_ok l x
  have a : m ≤ maxI x l := by
    rcases List.mem_cons.mp h with rfl | h
    · exact h2
    · exact h3 m h
  have b : maxI x l ≤ m := by
    rcases h1 with e | e
    · rw [e]; exact g x (.head _)
    · exact g _ (.tail _ e)
  omega
theorem min_one {x m : Int} {l : List Int} (h : m ∈ x :: l) (g : ∀ y ∈ x :: l, m ≤ y) : m = minI x l := by
  obtain ⟨h1, h2, h3⟩ := minI_ok l x
  have a : minI x l ≤ m := by
    rcases List.mem_cons.mp h with rfl | h
    · exact h2
    · exact h3 m h
  have b : m ≤ minI x l := by
    rcases h1 with e | e
    · rw [e]; exact g x (.head _)
    · exact g _ (.tail _ e)
  omega
def bMax : B1 := fun xs k => match xs with
  | [.lst ts] => match tints ts with
    | some (x :: l) => k (.int (maxI x l))
    | _ => false
  | _ => false
def bMin : B1 := fun xs k => match xs with
  | [.lst ts] => match tints ts with
    | some (x :: l) => k (.int (minI x l))
    | _ => false
  | _ => false
theorem bs_max : BS d (rMax Cl.K) bMax := by
  intro F H vs xs wd r k hk Q q
  unfold bMax at hk
  split at hk
  · obtain ⟨v, rfl, r1⟩ := rts1 r
    split at hk
    · rename_i x l e
      cases r1 with
      | lst f r =>
        refine ⟨_, x :: l, rfl, by rw [← tints_ok r e]; exact rd_sql wd f, Nat.succ_pos _, fun m h g => ?_⟩
        rw [max_one h g]
        exact q _ _ F H (Up.refl wd) (.int _) hk
    · cases hk
  · cases hk
theorem bs_min : BS d (rMin Cl.K) bMin := by
  intro F H vs xs wd r k hk Q q
  unfold bMin at hk
  split at hk
  · obtain ⟨v, rfl, r1⟩ := rts1 r
    split at hk
    · rename_i x l e
      cases r1 with
      | lst f r =>
        refine ⟨_, x :: l, rfl, by rw [← tints_ok r e]; exact rd_sql wd f, Nat.succ_pos _, fun m h g => ?_⟩
        rw [min_one h g]
        exact q _ _ F H (Up.refl wd) (.int _) hk
    · cases hk
  · cases hk
def bMax2 : B1 := fun xs k => match xs with
  | [.int i, .int j] => k (.int (if j > i then j else i))
  | _ => false
def bMin2 : B1 := fun xs k => match xs with
  | [.int i, .int j] => k (.int (if j < i then j else i))
  | _ => false
theorem bs_max2 : BS d rMax2 bMax2 := by
  intro F H vs xs wd r k hk Q q
  unfold bMax2 at hk
  split at hk
  · obtain ⟨v, w, rfl, r1, r2⟩ := rts2 r
    cases r1
    cases r2
    exact ⟨_, _, rfl, q _ _ F H (Up.refl wd) (.int _) hk⟩
  · cases hk
theorem bs_min2 : BS d rMin2 bMin2 := by
  intro F H vs xs wd r k hk Q q
  unfold bMin2 at hk
  split at hk
  · obtain ⟨v, w, rfl, r1, r2⟩ := rts2 r
    cases r1
    cases r2
    exact ⟨_, _, rfl, q _ _ F H (Up.refl wd) (.int _) hk⟩
  · cases hk
/-! list(..), tuple(..) -/
def bList : B1 := fun xs k => match xs with
  | [.lst ts] => k (.lst ts)
  | [.tup ts] => k (.lst ts)
  | _ => false
theorem bn_list : BN d (rList Cl.K) bList := by
  intro F H vs xs wd r k hk Q q
  unfold bList at hk
  split at hk
  · obtain ⟨v, rfl, r1⟩ := rts1 r
    cases r1 with
    | lst e r => exact ⟨_, _, rfl, .inl (rd_sql wd e), fun l hl => q l _ F _ (up_new wd hl) hl (f_none wd hl) (show OwnAt F (upd H l _) l (.lst _) from ⟨_, upd_same, r⟩) hk⟩
  · obtain ⟨v, rfl, r1⟩ := rts1 r
    cases r1 with
    | tup e r => exact ⟨_, _, rfl, .inr (rd_sqt wd e), fun l hl => q l _ F _ (up_new wd hl) hl (f_none wd hl) (show OwnAt F (upd H l _) l (.lst _) from ⟨_, upd_same, r⟩) hk⟩
  · cases hk
def bListS : B1 := fun xs k => match xs with
  | [.str z] => decide (z.cps.toList.length ≤ 1000) && k (.lst (z.cps.toList.map fun c => .str ⟨#[c]⟩))
  | _ => false
theorem bn_listS : BN d rListStr bListS := by
  intro F H vs xs wd r k hk Q q
  unfold bListS at hk
  split at hk
  · rename_i z
    obtain ⟨v, rfl, r1⟩ := rts1 r
    cases r1
    rw [Bool.and_eq_true, decide_eq_true_eq] at hk
    refine ⟨z, rfl, by rw [← Array.length_toList]; exact hk.1, fun l hl => q l _ F _ (up_new wd hl) hl (f_none wd hl) (show OwnAt F (upd H l _) l (.lst _) from ⟨_, upd_same, map_rts (fun _ => .str _) _⟩) hk.2⟩
  · cases hk
def bTuple : B1 := fun xs k => match xs with
  | [.lst ts] => k (.tup ts)
  | [.tup ts] => k (.tup ts)
  | _ => false
theorem bs_tuple : BS d (rTupB Cl.K) bTuple := by
  intro F H vs xs wd r k hk Q q
  unfold bTuple at hk
  split at hk
  · obtain ⟨v, rfl, r1⟩ := rts1 r
    cases r1 with
    | lst e r =>
      rename_i a ws r0
      refine ⟨_, _, rfl, .inl ⟨rd_sql wd e, fun l ob hl hb => ?_⟩⟩
      have u := up_lay (o := .frz ob (.tup ws)) wd hl
      exact q _ _ _ _ u (.tup (.inl ⟨ob, hb, upd_same⟩) (r.mono u.f)) hk
  · obtain ⟨v, rfl, r1⟩ := rts1 r
    cases r1 with
    | tup e r => exact ⟨_, _, rfl, .inr ⟨rd_sqt wd e, q _ _ F H (Up.refl wd) (.tup e r) hk⟩⟩
  · cases hk
/-! sorted, of texts -/
def insZ (z : Str) : List Str → List Str
  | [] => [z]
  | y :: r => if ltZ y z then y :: insZ z r else z :: y :: r
def sortZ : List Str → List Str
  | [] => []
  | z :: r => insZ z (sortZ r)
/-! subscripts -/
theorem atI_rt {F : Hp} {vs : List V} {ts : List T} {i : Int} {t : T} (r : RTs F vs ts) (e : atI ts i = some t) : ∃ v, atI vs i = some v ∧ RT F v t := by
  unfold atI at e ⊢
  rw [r.len]
  cases h : ixN ts.length i with
  | none => rw [h] at e; cases e
  | some j =>
    rw [h] at e
    exact RTs.at r e
def oIx : O2 := fun x y k => match x, y with
  | .lst ts, .int i => match atI ts i with
    | some t => k t
    | none => false
  | .tup ts, .int i => match atI ts i with
    | some t => k t
    | none => false
  | _, _ => false
theorem os_ixL : OpS d (rIxL Cl.K) (fun x y k => match x with | .lst _ => oIx x y k | _ => false) := by
  intro F H v w x y wd rx ry k hk Q q
  dsimp only at hk
  split at hk
  · rename_i ts
    unfold oIx at hk
    split at hk
    · rename_i e0
      cases e0
      cases ry
      split at hk
      · rename_i t e
        cases rx with
        | lst f r =>
          obtain ⟨u, h1, h2⟩ := atI_rt r e
          exact ⟨_, _, _, u, rfl, rfl, rd_sql wd f, h1, q _ _ F H (Up.refl wd) h2 hk⟩
      · cases hk
    · rename_i e0
      cases e0
    · cases hk
  · cases hk
theorem os_ixT : OpS d (rIxT Cl.K) (fun x y k => match x with | .tup _ => oIx x y k | _ => false) := by
  intro F H v w x y wd rx ry k hk Q q
  dsimp only at hk
  split at hk
  · rename_i ts
    unfold oIx at hk
    split at hk
    · rename_i e0
      cases e0
    · rename_i e0
      cases e0
      cases ry
      split at hk
      · rename_i t e
        cases rx with
        | tup f r =>
          obtain ⟨u, h1, h2⟩ := atI_rt r e
          exact ⟨_, _, _, u, rfl, rfl, rd_sqt wd f, h1, q _ _ F H (Up.refl wd) h2 hk⟩
      · cases hk
    · cases hk
  · cases hk
end
end Tr
set_option maxRecDepth 100000
set_option maxHeartbeats 4000000
/-! Trees: dicts, slices. -/
namespace Tr
open PySem PySem.Spec PyProof.Rows L2 Tm
variable [Cl] [Tt]
section
variable {d : Option Addr} {ta tb tc te : TE} {ma mb mc me : ME}
/-! keys -/
def eqK : Key → Key → Bool
  | .inl i, .inl j => i == j
  | .inr a, .inr b => eqZ a b
  | _, _ => false
theorem eqK_eq (a b : Key) : eqK a b = decide (a = b) := by
  unfold eqK
  split
  · rw [key_ll]
  · rw [key_rr, eqZ_eq]
  · rename_i h1 h2
    cases a with
    | inl i =>
      cases b with
      | inl j => exact (h1 i j rfl rfl).elim
      | inr z => rw [key_lr]
    | inr y =>
      cases b with
      | inl j => rw [key_rl]
      | inr z => exact (h2 y z rfl rfl).elim
def keyT : T → Option Key
  | .int i => some (.inl i)
  | .str z => some (.inr z)
  | _ => none
theorem keyT_rt {F : Hp} {v : V} {t : T} {k : Key} (r : RT F v t) (e : keyT t = some k) : v = kV k := by
  cases r <;> cases e <;> rfl
def getT : List (Key × T) → Key → Option T
  | [], _ => none
  | (j, t) :: r, k => if eqK j k then some t else getT r k
def putT : List (Key × T) → Key → T → List (Key × T)
  | [], k, t => [(k, t)]
  | (j, u) :: r, k, t => if eqK j k then (j, t) :: r.map (fun kv => if eqK kv.1 k then (kv.1, t) else kv) else (j, u) :: putT r k t
theorem getT_rt {F : Hp} : ∀ {kts : List (Key × T)} {kvs : List (Key × V)} {k : Key}, RTd F kvs kts → match getT kts k with
    | some t => ∃ v, valV kvs k = some v ∧ RT F v t
    | none => valV kvs k = none
  | [], _, k, r => by
    cases r
    rfl
  | (j, t) :: kts, _, k, r => by
    cases r with
    | cons r1 r2 =>
      unfold getT
      rw [eqK_eq]
      by_cases c : j = k
      · rw [decide_eq_true c]
        exact ⟨_, valV_pos c, r1⟩
      · rw [decide_eq_false c]
        have ih := getT_rt (k := k) r2
        show match getT kts k with
          | some t => ∃ v, valV _ k = some v ∧ RT F v t
          | none => valV _ k = none
        rw [valV_neg c]
        exact ih
theorem map_rtd {F : Hp} {v : V} {t : T} (k : Key) (r0 : RT F v t) : ∀ {kts : List (Key × T)} {kvs : List (Key × V)}, RTd F kvs kts → RTd F (kvs.map fun kv => if kv.1 = k then (kv.1, v) else kv) (kts.map fun kv => if eqK kv.1 k then (kv.1, t) else kv)
  | [], _, r => by
    cases r
    exact .nil
  | (j, u) :: kts, _, r => by
    cases r with
    | cons r1 r2 =>
      rw [List.map_cons, List.map_cons, eqK_eq]
      by_cases c : j = k
      · rw [if_pos c, decide_eq_true c]
        exact .cons r0 (map_rtd k r0 r2)
      · rw [if_neg c, decide_eq_false c]
        exact .cons r1 (map_rtd k r0 r2)
theorem putK_cons {p : Key × V} {r : List (Key × V)} {k : Key} {v : V} : putK (p :: r) k v = if p.1 = k then (p.1, v) :: r.map (fun kv => if kv.1 = k then (kv.1, v) else kv) else p :: putK r k v := by
  unfold putK
  by_cases c : p.1 = k
  · rw [if_pos c, if_pos (by rw [List.any_cons, decide_eq_true c]; rfl), List.map_cons, if_pos c]
  · rw [if_neg c, List.any_cons, decide_eq_false c, Bool.false_or]
    split
    · rw [List.map_cons, if_neg c]
    · rfl
theorem putT_rt {F : Hp} {v : V} {t : T} {k : Key} (r0 : RT F v t) : ∀ {kts : List (Key × T)} {kvs : List (Key × V)}, RTd F kvs kts → RTd F (putK kvs k v) (putT kts k t)
  | [], _, r => by
    cases r
    exact .cons r0 .nil
  | (j, u) :: kts, _, r => by
    cases r with
    | cons r1 r2 =>
      rw [putK_cons]
      unfold putT
      rw [eqK_eq]
      by_cases c : j = k
      · rw [if_pos c, decide_eq_true c]
        exact .cons r0 (map_rtd k r0 r2)
      · rw [if_neg c, decide_eq_false c]
        exact .cons r1 (putT_rt r0 r2)
def mergeT : List (Key × T) → List (Key × T) → List (Key × T)
  | acc, [] => acc
  | acc, (k, t) :: r => mergeT (putT acc k t) r
theorem mergeT_rt {F : Hp} : ∀ {mts : List (Key × T)} {mvs : List (Key × V)} {kts : List (Key × T)} {kvs : List (Key × V)}, RTd F kvs kts → RTd F mvs mts → RTd F (mergeK kvs mvs) (mergeT kts mts)
  | [], _, _, _, r, h => by
    cases h
    exact r
  | (k, t) :: mts, _, _, _, r, h => by
    cases h with
    | cons h1 h2 => exact (show RTd F (mergeK (putK _ k _) _) (mergeT (putT _ k t) mts) from mergeT_rt (putT_rt h1 r) h2)
theorem rd_dic {F H : Hp} {a : Addr} {kvs : List (Key × V)} (w : Wd d F H) (e : F a = some (.dK kvs)) : Rd H a (.dK kvs) := (w.sub a _ e).rd
/-! d[k], k in d -/
def mDGet (ma mb : ME) : ME := fun σ k => ma σ fun x => mb σ fun y => match x, keyT y with
  | .dic kts, some j => match getT kts j with
    | some t => k t
    | none => false
  | _, _ => false
theorem s_dget (ha : SE d ta ma) (hb : SE d tb mb) : SE d (tDGet ta tb) (mDGet ma mb) := by
  intro F H σ σ' st k hk Q q
  refine ha F H σ σ' st _ hk _ fun v x F1 H1 u1 r1 h1 => ?_
  refine hb F1 H1 σ σ' (st.up u1) _ h1 _ fun w y F2 H2 u2 r2 h2 => ?_
  have u12 := u1.trans u2 st.wd
  split at h2
  · rename_i kts j ej
    have r1' := r1.mono u2.f
    obtain rfl := keyT_rt r2 ej
    cases r1' with
    | dic f r =>
      have g := getT_rt (k := j) r
      split at h2
      · rename_i t et
        rw [et] at g
        obtain ⟨u, hv, ru⟩ := g
        exact ⟨_, u, rfl, .inl ⟨_, j, rd_dic u2.wd f, rfl, hv.symm⟩, q u t F2 H2 u12 ru h2⟩
      · cases h2
  · cases h2
def mDIn (ma mb : ME) : ME := fun σ k => ma σ fun y => mb σ fun x => match x, keyT y with
  | .dic kts, some j => k (.bl (getT kts j).isSome)
  | _, _ => false
def mDNotIn (ma mb : ME) : ME := fun σ k => ma σ fun y => mb σ fun x => match x, keyT y with
  | .dic kts, some j => k (.bl (!(getT kts j).isSome))
  | _, _ => false
theorem din_aux {F : Hp} {kts : List (Key × T)} {kvs : List (Key × V)} {j : Key} (r : RTd F kvs kts) : (valV kvs j).isSome = (getT kts j).isSome := by
  have g := getT_rt (k := j) r
  split at g
  · rename_i t e
    obtain ⟨u, hv, _⟩ := g
    rw [hv, e]
    rfl
  · rename_i e
    rw [g, e]
    rfl
theorem s_din (ha : SE d ta ma) (hb : SE d tb mb) : SE d (tDIn ta tb) (mDIn ma mb) := by
  intro F H σ σ' st k hk Q q
  refine ha F H σ σ' st _ hk _ fun v x F1 H1 u1 r1 h1 => ?_
  refine hb F1 H1 σ σ' (st.up u1) _ h1 _ fun w y F2 H2 u2 r2 h2 => ?_
  have u12 := u1.trans u2 st.wd
  split at h2
  · rename_i kts j ej
    obtain rfl := keyT_rt r1 ej
    cases r2 with
    | dic f r => exact ⟨_, _, rfl, .inl ⟨_, j, rd_dic u2.wd f, rfl, rfl⟩, q _ _ F2 H2 u12 (.bl _) (by rw [din_aux r]; exact h2)⟩
  · cases h2
theorem s_dnotin (ha : SE d ta ma) (hb : SE d tb mb) : SE d (tDNotIn ta tb) (mDNotIn ma mb) := by
  intro F H σ σ' st k hk Q q
  refine ha F H σ σ' st _ hk _ fun v x F1 H1 u1 r1 h1 => ?_
  refine hb F1 H1 σ σ' (st.up u1) _ h1 _ fun w y F2 H2 u2 r2 h2 => ?_
  have u12 := u1.trans u2 st.wd
  split at h2
  · rename_i kts j ej
    obtain rfl := keyT_rt r1 ej
    cases r2 with
    | dic f r => exact ⟨_, _, rfl, .inl ⟨_, j, rd_dic u2.wd f, rfl, rfl⟩, q _ _ F2 H2 u12 (.bl _) (by rw [din_aux r]; exact h2)⟩
  · cases h2
/-- d.get(k, x) -/
def mDGet2 (ma mb mc : ME) : ME := fun σ k => ma σ fun x => match x with
  | .dic kts => mb σ fun y => mc σ fun z => match keyT y with
    | some j => k ((getT kts j).getD z)
    | none => false
  | _ => false
def mDGet1 (ma mb : ME) : ME := fun σ k => ma σ fun x => match x with
  | .dic kts => mb σ fun y => match keyT y with
    | some j => k ((getT kts j).getD .non)
    | none => false
  | _ => false
theorem getD_rt {F : Hp} {kts : List (Key × T)} {kvs : List (Key × V)} {j : Key} {v : V} {t : T} (r : RTd F kvs kts) (r0 : RT F v t) : RT F ((valV kvs j).getD v) ((getT kts j).getD t) := by
  have g := getT_rt (k := j) r
  split at g
  · rename_i t e
    obtain ⟨u, hv, ru⟩ := g
    rw [hv, e]
    exact ru
  · rename_i e
    rw [g, e]
    exact r0
theorem s_dget2 (ha : SE d ta ma) (hb : SE d tb mb) (hc : SE d tc mc) : SE d (tDGet2 ta tb tc) (mDGet2 ma mb mc) := by
  intro F H σ σ' st k hk Q q
  refine ha F H σ σ' st _ hk _ fun v x F1 H1 u1 r1 h1 => ?_
  split at h1
  · cases r1 with
    | dic f r =>
      rename_i kts _ a kvs
      refine ⟨_, rfl, .inl ⟨_, rd_dic u1.wd f⟩, ?_⟩
      refine hb F1 H1 σ σ' (st.up u1) _ h1 _ fun w y F2 H2 u2 r2 h2 => ?_
      have u12 := u1.trans u2 st.wd
      refine hc F2 H2 σ σ' (st.up u12) _ h2 _ fun w' z F3 H3 u3 r3 h3 => ?_
      split at h3
      · rename_i j ej
        obtain rfl := keyT_rt r2 ej
        exact ⟨_, .inl ⟨_, j, rd_dic u3.wd (u3.f _ _ (u2.f _ _ f)), rfl, rfl⟩, q _ _ F3 H3 (u12.trans u3 st.wd) (getD_rt ((r.mono u2.f).mono u3.f) r3) h3⟩
      · cases h3
  · cases h1
theorem s_dget1 (ha : SE d ta ma) (hb : SE d tb mb) : SE d (tDGet1 ta tb) (mDGet1 ma mb) := by
  intro F H σ σ' st k hk Q q
  refine ha F H σ σ' st _ hk _ fun v x F1 H1 u1 r1 h1 => ?_
  split at h1
  · cases r1 with
    | dic f r =>
      refine ⟨_, rfl, .inl ⟨_, rd_dic u1.wd f⟩, ?_⟩
      refine hb F1 H1 σ σ' (st.up u1) _ h1 _ fun w y F2 H2 u2 r2 h2 => ?_
      split at h2
      · rename_i j ej
        obtain rfl := keyT_rt r2 ej
        exact ⟨_, .inl ⟨_, j, rd_dic u2.wd (u2.f _ _ f), rfl, rfl⟩, q _ _ F2 H2 (u1.trans u2 st.wd) (getD_rt (r.mono u2.f) .non) h2⟩
      · cases h2
  · cases h1
/-- a dict display -/
def mDNew : ME := fun _ k => k (.dic [])
theorem o_dnew : SO d tDNewK mDNew := fun F H σ σ' st k hk Q q p hp =>
  q p _ F _ (up_new st.wd hp) hp (f_none st.wd hp) (show OwnAt F (upd H p (.dK [])) p (.dic []) from ⟨[], upd_same, .nil⟩) hk
/-! slices -/
def cutT (xs : List T) (lo hi : Option Int) : List T := (xs.drop (HT.sIx xs.length 0 lo)).take (HT.sIx xs.length xs.length hi - HT.sIx xs.length 0 lo)
theorem cutT_rt {F : Hp} {vs : List V} {ts : List T} {lo hi : Option Int} (r : RTs F vs ts) : RTs F (cutV vs lo hi) (cutT ts lo hi) := by
  unfold cutV cutT
  rw [r.len]
  exact (r.drop _).take _
def SOp (d : Option Addr) (t : TO) (m : MO) : Prop := ∀ F H σ σ', Sts d F H σ' σ → ∀ k : Option Int → Bool, m σ' k = true → ∀ Q : Option Int → Hp → Prop,
  (∀ i F' H', Up d F H F' H' → k i = true → Q i H') → t σ H Q
def mNoPart : MO := fun _ k => k none
def mPart (m : ME) : MO := fun σ k => m σ fun x => match x with
  | .int i => k (some i)
  | _ => false
theorem so_none : SOp d tNoPart mNoPart := fun F H σ σ' st k hk Q q => q none F H (Up.refl st.wd) hk
theorem so_part (h : SE d te me) : SOp d (tPart te) (mPart me) := by
  intro F H σ σ' st k hk Q q
  refine h F H σ σ' st _ hk _ fun v x F1 H1 u1 r1 h1 => ?_
  split at h1
  · cases r1
    exact ⟨_, rfl, q _ F1 H1 u1 h1⟩
  · cases h1
def mSlL (m : ME) (lo hi : MO) : ME := fun σ k => m σ fun x => lo σ fun a => hi σ fun b => match x with
  | .lst ts => k (.lst (cutT ts a b))
  | _ => false
def mSlT (m : ME) (lo hi : MO) : ME := fun σ k => m σ fun x => lo σ fun a => hi σ fun b => match x with
  | .tup ts => k (.tup (cutT ts a b))
  | _ => false
theorem o_slL {tl th : TO} {ml mh : MO} (h : SE d te me) (hl : SOp d tl ml) (hh : SOp d th mh) : SO d (tSl (rSlL Cl.K) te tl th) (mSlL me ml mh) := by
  intro F H σ σ' st k hk Q q
  refine h F H σ σ' st _ hk _ fun v x F1 H1 u1 r1 h1 => ?_
  refine hl F1 H1 σ σ' (st.up u1) _ h1 _ fun a F2 H2 u2 h2 => ?_
  have u12 := u1.trans u2 st.wd
  refine hh F2 H2 σ σ' (st.up u12) _ h2 _ fun b F3 H3 u3 h3 => ?_
  have u13 := u12.trans u3 st.wd
  split at h3
  · have r3 := (r1.mono u2.f).mono u3.f
    cases r3 with
    | lst f r => exact ⟨_, _, rfl, rd_sql u3.wd f, fun p hp => q p _ F3 _ (u13.trans (up_new u3.wd hp) st.wd) (none_back u13 st.wd hp) (f_none u3.wd hp) (show OwnAt F3 (upd H3 p _) p (.lst _) from ⟨_, upd_same, cutT_rt r⟩) h3⟩
  · cases h3
theorem s_slT {tl th : TO} {ml mh : MO} (h : SE d te me) (hl : SOp d tl ml) (hh : SOp d th mh) : SE d (tSl (rSlB Cl.K) te tl th) (mSlT me ml mh) := by
  intro F H σ σ' st k hk Q q
  refine h F H σ σ' st _ hk _ fun v x F1 H1 u1 r1 h1 => ?_
  refine hl F1 H1 σ σ' (st.up u1) _ h1 _ fun a F2 H2 u2 h2 => ?_
  have u12 := u1.trans u2 st.wd
  refine hh F2 H2 σ σ' (st.up u12) _ h2 _ fun b F3 H3 u3 h3 => ?_
  have u13 := u12.trans u3 st.wd
  split at h3
  · have r3 := (r1.mono u2.f).mono u3.f
    cases r3 with
    | tup f r =>
      rename_i ad ws
      refine ⟨_, _, rfl, rd_sqt u3.wd f, fun hw => ?_, fun hw p ob hp hb => ?_⟩
      · refine q _ _ F3 H3 u13 (.tup f ?_) h3
        have c := cutT_rt (lo := a) (hi := b) r
        have e : cutV ws a b = ws := by
          unfold cutV
          rw [hw.1, hw.2, List.drop_zero, Nat.sub_zero, List.take_length]
        rw [e] at c
        exact c
      · have u := up_lay (o := .frz ob (.tup (cutV ws a b))) u3.wd hp
        exact q _ _ _ _ (u13.trans u st.wd) (.tup (.inl ⟨ob, hb, upd_same⟩) ((cutT_rt r).mono u.f)) h3
  · cases h3
/-! -n -/
def mUn (g : Int → T) (m : ME) : ME := fun σ k => m σ fun x => match x with
  | .int i => k (g i)
  | _ => false
theorem s_un {g : Int → V} {g' : Int → T} (h : ∀ F i, RT F (g i) (g' i)) (ha : SE d ta ma) : SE d (tUn (rU g) ta) (mUn g' ma) := by
  intro F H σ σ' st k hk Q q
  refine ha F H σ σ' st _ hk _ fun v x F1 H1 u1 r1 h1 => ?_
  split at h1
  · cases r1
    exact ⟨_, rfl, q _ _ F1 H1 u1 (h _ _) h1⟩
  · cases h1
end
end Tr
set_option maxRecDepth 100000
set_option maxHeartbeats 4000000
/-! Trees: what is walked, targets, comprehensions. -/
namespace Tr
open PySem PySem.Spec PyProof.Rows L2 Tm
variable [Cl] [Tt]
/-! ### slots wiped -/
theorem wipe_get : ∀ (vs : List Nat) (σ : L2.St) (j : Nat), (wipe σ vs)[j]? = if j ∈ vs then (σ[j]?).map (fun _ => (none : Option V)) else σ[j]?
  | [], σ, j => by
    unfold wipe
    rw [if_neg (fun h => nomatch h)]
  | v :: vs, σ, j => by
    unfold wipe
    rw [List.getElem?_set]
    by_cases c : v = j
    · subst c
      rw [if_pos rfl, if_pos (show v ∈ v :: vs from List.Mem.head _), wipe_length]
      by_cases l : v < σ.length
      · rw [if_pos l, List.getElem?_eq_getElem l] <;> rfl
      · rw [if_neg l, List.getElem?_eq_none (by omega)] <;> rfl
    · rw [if_neg c, wipe_get vs σ j]
      by_cases m : j ∈ vs
      · rw [if_pos m, if_pos (show j ∈ v :: vs from List.Mem.tail _ m)]
      · rw [if_neg m, if_neg (fun h => by
          rcases List.mem_cons.mp h with h | h
          · exact c h.symm
          · exact m h)]
theorem wipe_set {σ : L2.St} {i : Nat} {x : Option V} {vs : List Nat} (h : i ∈ vs) : wipe (σ.set i x) vs = wipe σ vs := by
  refine List.ext_getElem? fun j => ?_
  rw [wipe_get, wipe_get, List.getElem?_set]
  by_cases c : i = j
  · subst c
    rw [if_pos h, if_pos h, if_pos rfl]
    by_cases l : i < σ.length
    · rw [if_pos l, List.getElem?_eq_getElem l] <;> rfl
    · rw [if_neg l, List.getElem?_eq_none (by omega)] <;> rfl
  · rw [if_neg c]
theorem wipe_wipe (σ : L2.St) (vs : List Nat) : wipe (wipe σ vs) vs = wipe σ vs := by
  refine List.ext_getElem? fun j => ?_
  rw [wipe_get, wipe_get]
  by_cases h : j ∈ vs
  · rw [if_pos h, if_pos h, Option.map_map]
    rfl
  · rw [if_neg h, if_neg h]
def mWipe (σ : Sg) : List Nat → Sg
  | [] => σ
  | v :: vs => (mWipe σ vs).set v .un
theorem pr_set {α β : Type} {R : α → β → Prop} : ∀ {l : List α} {m : List β} {x : α} {y : β} (i : Nat), Paired R l m → R x y → Paired R (l.set i x) (m.set i y)
  | _, _, _, _, _, .nil, _ => .nil
  | _, _, _, _, 0, .cons _ t, r => .cons r t
  | _, _, _, _, i + 1, .cons a t, r => .cons a (pr_set i t r)
section
variable {d : Option Addr} {F H : Hp} {σ : L2.St} {σ' : Sg}
theorem dj_set {i : Nat} {s : Sl} {x : Option V} (h : Dj σ' σ) (hs : ∀ t, s ≠ .own t) : Dj (σ'.set i s) (σ.set i x) := by
  intro a b p q t u ne h1 h2 h3 h4
  have na : i ≠ a := fun z => by
    subst z
    rw [List.getElem?_set] at h1
    rw [if_pos rfl] at h1
    split at h1
    · exact hs _ (Option.some.inj h1)
    · cases h1
  have nb : i ≠ b := fun z => by
    subst z
    rw [List.getElem?_set] at h2
    rw [if_pos rfl] at h2
    split at h2
    · exact hs _ (Option.some.inj h2)
    · cases h2
  rw [List.getElem?_set_ne na] at h1 h3
  rw [List.getElem?_set_ne nb] at h2 h4
  exact h a b p q t u ne h1 h2 h3 h4
/-- the own slots of the one are own slots of the other -/
def OwnLe (τ' : Sg) (τ : L2.St) (σ' : Sg) (σ : L2.St) : Prop := ∀ (i : Nat) (t : T) (p : Addr), τ'[i]? = some (Sl.own t) → τ[i]? = some (some (V.ref p)) → σ'[i]? = some (Sl.own t) ∧ σ[i]? = some (some (V.ref p))
theorem OwnLe.refl : OwnLe σ' σ σ' σ := fun _ _ _ a b => ⟨a, b⟩
theorem OwnLe.trans {τ' ρ' : Sg} {τ ρ : L2.St} (a : OwnLe ρ' ρ τ' τ) (b : OwnLe τ' τ σ' σ) : OwnLe ρ' ρ σ' σ := fun i t p h g =>
  let ⟨x, y⟩ := a i t p h g
  b i t p x y
theorem ownLe_set {i : Nat} {s : Sl} {x : Option V} (hs : ∀ t, s ≠ .own t) : OwnLe (σ'.set i s) (σ.set i x) σ' σ := by
  intro a t p h1 h2
  have na : i ≠ a := fun z => by
    subst z
    rw [List.getElem?_set] at h1
    rw [if_pos rfl] at h1
    split at h1
    · exact hs _ (Option.some.inj h1)
    · cases h1
  rw [List.getElem?_set_ne na] at h1 h2
  exact ⟨h1, h2⟩
theorem Sts.setVal (s : Sts d F H σ' σ) (i : Nat) {v : V} {t : T} (r : RT F v t) : Sts d F H (σ'.set i (.val t)) (σ.set i (some v)) :=
  ⟨s.wd, pr_set i s.sl (.val r), dj_set s.dj fun _ z => nomatch z⟩
theorem Sts.wiped (s : Sts d F H σ' σ) : ∀ vs : List Nat, Sts d F H (mWipe σ' vs) (wipe σ vs)
  | [] => s
  | v :: vs => ⟨s.wd, pr_set v (Sts.wiped s vs).sl (.un _), dj_set (Sts.wiped s vs).dj fun _ z => nomatch z⟩
end
/-! ### targets -/
abbrev MG := T → Sg → (Sg → Bool) → Bool
abbrev MGs := List T → Sg → (Sg → Bool) → Bool
section
variable {d : Option Addr}
structure Near (d : Option Addr) (F H : Hp) (τ' : Sg) (τ : L2.St) (σ' : Sg) (σ : L2.St) (is : List Nat) : Prop where
  st : Sts d F H τ' τ
  own : OwnLe τ' τ σ' σ
  wp : ∀ vs : List Nat, (∀ i ∈ is, i ∈ vs) → wipe τ vs = wipe σ vs
def SG (d : Option Addr) (g : TG) (m : MG) (is : List Nat) : Prop := ∀ F H σ σ' v t, Sts d F H σ' σ → RT F v t → ∀ k : Sg → Bool, m t σ' k = true → ∀ Q : L2.St → Hp → Prop,
  (∀ τ τ', Near d F H τ' τ σ' σ is → k τ' = true → Q τ H) → g v σ H Q
def SGs (d : Option Addr) (g : TGs) (m : MGs) (is : List Nat) : Prop := ∀ F H σ σ' vs ts, Sts d F H σ' σ → RTs F vs ts → ∀ k : Sg → Bool, m ts σ' k = true → ∀ Q : L2.St → Hp → Prop,
  (∀ τ τ', Near d F H τ' τ σ' σ is → k τ' = true → Q τ H) → g vs σ H Q
def mgN (i : Nat) : MG := fun t σ k => k (σ.set i (.val t))
theorem g_name {i : Nat} : SG d (gName i) (mgN i) [i] := by
  intro F H σ σ' v t st r k hk Q q
  exact q _ _ ⟨st.setVal i r, ownLe_set (fun _ z => nomatch z), fun vs h => wipe_set (h i (List.Mem.head _))⟩ hk
def mgNil : MGs := fun ts σ k => match ts with
  | [] => k σ
  | _ => false
def mgCons (m : MG) (r : MGs) : MGs := fun ts σ k => match ts with
  | t :: ts => m t σ fun τ => r ts τ k
  | _ => false
theorem g_nil : SGs d gNil mgNil [] := by
  intro F H σ σ' vs ts st r k hk Q q
  unfold mgNil at hk
  split at hk
  · cases r
    exact ⟨rfl, q _ _ ⟨st, OwnLe.refl, fun _ _ => rfl⟩ hk⟩
  · cases hk
theorem g_cons {g : TG} {gs : TGs} {m : MG} {ms : MGs} {is js : List Nat} (h : SG d g m is) (hs : SGs d gs ms js) : SGs d (gCons g gs) (mgCons m ms) (is ++ js) := by
  intro F H σ σ' vs ts st r k hk Q q
  unfold mgCons at hk
  split at hk
  · cases r with
    | cons r1 r2 =>
      refine ⟨_, _, rfl, ?_⟩
      refine h F H σ σ' _ _ st r1 _ hk _ fun τ τ' n h1 => ?_
      refine hs F H τ τ' _ _ n.st r2 _ h1 _ fun ρ ρ' n2 h2 => ?_
      exact q _ _ ⟨n2.st, n2.own.trans n.own, fun vs hv => (n2.wp vs fun i hi => hv i (List.mem_append_right _ hi)).trans (n.wp vs fun i hi => hv i (List.mem_append_left _ hi))⟩ h2
  · cases hk
def mgT (n : Nat) (m : MGs) : MG := fun t σ k => match t with
  | .tup ts => decide (ts.length = n) && m ts σ k
  | .tpl ts => decide (ts.length = n) && m ts σ k
  | _ => false
theorem g_tup {gs : TGs} {ms : MGs} {is : List Nat} {n : Nat} (hs : SGs d gs ms is) : SG d (gTup Cl.K n gs) (mgT n ms) is := by
  intro F H σ σ' v t st r k hk Q q
  unfold mgT at hk
  split at hk
  · rw [Bool.and_eq_true, decide_eq_true_eq] at hk
    cases r with
    | tup f r =>
      refine ⟨_, _, rfl, rd_sqt st.wd f, by rw [r.len]; exact hk.1, ?_⟩
      exact hs F H σ σ' _ _ st r k hk.2 Q q
  · rw [Bool.and_eq_true, decide_eq_true_eq] at hk
    cases r with
    | tpl f r =>
      refine ⟨_, _, rfl, rd_sqp st.wd f, by rw [r.len]; exact hk.1, ?_⟩
      exact hs F H σ σ' _ _ st r k hk.2 Q q
  · cases hk
end
/-! ### what is walked -/
abbrev MI := Sg → (List T → Bool) → Bool
/-- what is locked stays locked -/
def Lk (F1 H1 H : Hp) : Prop := ∀ a ob o, F1 a = some o → H1 a = some (.frz ob o) → H a = some (.frz ob o)
structure Cur (d : Option Addr) (F1 H1 F H : Hp) : Prop where
  le : Le F1 F
  wd : Wd d F H
  lk : Lk F1 H1 H
structure WT (d : Option Addr) (F1 H1 : Hp) (J : It) (ts : List T) : Prop where
  ex : ∃ (G : Hp → Prop) (Y : Nat → Hp → V → Hp → Prop), Walk J ts.length G Y ∧ (∀ F H, Cur d F1 H1 F H → G H) ∧
    ∀ i F H x H', Cur d F1 H1 F H → Y i H x H' → ∃ F' t, ts[i]? = some t ∧ Up d F H F' H' ∧ RT F' x t
/-- the dict in the slot is locked -/
def Lkd (pre : Option Nat) (H : Hp) (σ' : Sg) (σ : L2.St) : Prop := ∀ i, pre = some i → ∃ a ob kvs, σ[i]? = some (some (V.ref a)) ∧ H a = some (.frz ob (.dK kvs))
def SI (d : Option Addr) (pre : Option Nat) (wi : TI) (mi : MI) : Prop := ∀ F H σ σ', Sts d F H σ' σ → Lkd pre H σ' σ → ∀ k : List T → Bool, mi σ' k = true → ∀ R : It → Hp → Prop,
  (∀ J ts F1 H1, Up d F H F1 H1 → WT d F1 H1 J ts → k ts = true → R J H1) → wi σ H R
theorem up_cur {d : Option Addr} {F1 H1 F H : Hp} (w : Wd d F1 H1) (u : Up d F1 H1 F H) : Cur d F1 H1 F H := ⟨u.f, u.wd, fun a ob o f h => by
  have : d ≠ some a := fun z => by
    have := (w.tape a z).2
    rw [f] at this
    cases this
  exact u.keep a _ this (nt_frz _ _) h⟩
section
variable {d : Option Addr} {te : TE} {me : ME}
theorem wt_list {F1 H1 : Hp} {a : Addr} {vs : List V} {ts : List T} (f : F1 a = some (.lst vs)) (r : RTs F1 vs ts) : WT d F1 H1 (Itl Cl.K a) ts :=
  ⟨_, _, by rw [← r.len]; exact walk_list (K := Cl.K) (a := a) (xs := vs), fun F H c => rd_sql c.wd (c.le _ _ f), fun i F H x H' c y => by
    obtain ⟨rfl, e⟩ := y
    obtain ⟨t, h1, h2⟩ := RTs.at' (r.mono c.le) e
    exact ⟨F, t, h1, Up.refl c.wd, h2⟩⟩
theorem wt_tup {F1 H1 : Hp} {a : Addr} {vs : List V} {ts : List T} (f : TupAt F1 a vs) (r : RTs F1 vs ts) : WT d F1 H1 (Itt Cl.K a) ts :=
  ⟨_, _, by rw [← r.len]; exact walk_tup (K := Cl.K) (a := a) (xs := vs), fun F H c => rd_sqt c.wd (f.imp (fun ⟨ob, z, e⟩ => ⟨ob, z, c.le _ _ e⟩) id), fun i F H x H' c y => by
    obtain ⟨rfl, e⟩ := y
    obtain ⟨t, h1, h2⟩ := RTs.at' (r.mono c.le) e
    exact ⟨F, t, h1, Up.refl c.wd, h2⟩⟩
def miL (m : ME) : MI := fun σ k => m σ fun x => match x with
  | .lst ts => k ts
  | _ => false
def miT (m : ME) : MI := fun σ k => m σ fun x => match x with
  | .tup ts => k ts
  | _ => false
def miE (m : ME) : MI := fun σ k => m σ fun x => match x with
  | .lst ts => k ts
  | .tup ts => k ts
  | _ => false
theorem i_list (h : SE d te me) : SI d none (iList Cl.K te) (miL me) := by
  intro F H σ σ' st _ k hk R q
  refine h F H σ σ' st _ hk _ fun v x F1 H1 u1 r1 h1 => ?_
  split at h1
  · cases r1 with
    | lst f r => exact ⟨_, rfl, ⟨_, rd_sql u1.wd f⟩, q _ _ F1 H1 u1 (wt_list f r) h1⟩
  · cases h1
theorem i_tup (h : SE d te me) : SI d none (iTup Cl.K te) (miT me) := by
  intro F H σ σ' st _ k hk R q
  refine h F H σ σ' st _ hk _ fun v x F1 H1 u1 r1 h1 => ?_
  split at h1
  · cases r1 with
    | tup f r => exact ⟨_, rfl, ⟨_, rd_sqt u1.wd f⟩, q _ _ F1 H1 u1 (wt_tup f r) h1⟩
  · cases h1
/-- range(n), range(a, b) -/
def rngT (lo : Int) : Nat → List T
  | 0 => []
  | n + 1 => .int lo :: rngT (lo + 1) n
theorem rngT_len : ∀ (n : Nat) (lo : Int), (rngT lo n).length = n
  | 0, _ => rfl
  | n + 1, lo => congrArg Nat.succ (rngT_len n (lo + 1))
theorem rngT_at : ∀ (n : Nat) (lo : Int) (i : Nat), i < n → (rngT lo n)[i]? = some (.int (lo + i))
  | 0, _, _, h => absurd h (Nat.not_lt_zero _)
  | n + 1, lo, 0, _ => by
    show some (T.int lo) = some (T.int (lo + ((0 : Nat) : Int)))
    rw [show lo + ((0 : Nat) : Int) = lo by omega]
  | n + 1, lo, i + 1, h => by
    show (rngT (lo + 1) n)[i]? = _
    rw [rngT_at n (lo + 1) i (by omega), show lo + 1 + (i : Int) = lo + ((i + 1 : Nat) : Int) by omega]
theorem wt_range {F1 H1 : Hp} {lo : Int} {n : Nat} : WT d F1 H1 (Itr lo n) (rngT lo n) := by
  refine ⟨fun _ => True, fun i H x H' => i < n ∧ H' = H ∧ x = .int (lo + i), ?_, fun _ _ _ => trivial, fun i F H x H' c y => ?_⟩
  · rw [rngT_len]
    have w := walk_range (lo := lo) (n := n)
    exact ⟨w.goes, w.stops, fun i H x H' hi g y => ⟨hi, w.yields i H x H' hi g y⟩⟩
  · obtain ⟨hi, rfl, rfl⟩ := y
    exact ⟨F, _, rngT_at n lo i hi, Up.refl c.wd, .int _⟩
def miR1 (m : MA) : MI := fun σ k => m σ fun xs => match xs with
  | [.int j] => decide (-(2 ^ 62) ≤ j) && decide (j < 2 ^ 62) && k (rngT 0 j.toNat)
  | _ => false
def miR2 (m : MA) : MI := fun σ k => m σ fun xs => match xs with
  | [.int i, .int j] => decide (-(2 ^ 62) ≤ i) && decide (i < 2 ^ 62) && decide (-(2 ^ 62) ≤ j) && decide (j < 2 ^ 62) && k (rngT i (j - i).toNat)
  | _ => false
theorem i_range1 {ta : TA} {ma : MA} (h : SA d ta ma) : SI d none (iRng1 ta) (miR1 ma) := by
  intro F H σ σ' st _ k hk R q
  refine h F H σ σ' st _ hk _ fun vs xs F1 H1 u1 r1 h1 => ?_
  split at h1
  · simp only [Bool.and_eq_true, decide_eq_true_eq] at h1
    obtain ⟨v, rfl, r⟩ := rts1 r1
    cases r
    exact ⟨_, rfl, h1.1.1, h1.1.2, q _ _ F1 H1 u1 wt_range h1.2⟩
  · cases h1
theorem i_range2 {ta : TA} {ma : MA} (h : SA d ta ma) : SI d none (iRng2 ta) (miR2 ma) := by
  intro F H σ σ' st _ k hk R q
  refine h F H σ σ' st _ hk _ fun vs xs F1 H1 u1 r1 h1 => ?_
  split at h1
  · simp only [Bool.and_eq_true, decide_eq_true_eq] at h1
    obtain ⟨v, w, rfl, r, s⟩ := rts2 r1
    cases r
    cases s
    exact ⟨_, _, rfl, ⟨h1.1.1.1.1, h1.1.1.1.2, h1.1.1.2, h1.1.2⟩, q _ _ F1 H1 u1 wt_range h1.2⟩
  · cases h1
/-- a text, sign by sign -/
def miS (m : ME) : MI := fun σ k => m σ fun x => match x with
  | .str z => k (z.cps.toList.map fun c => .str ⟨#[c]⟩)
  | _ => false
theorem wt_str {F1 H1 : Hp} {z : Str} : WT d F1 H1 (Its z) (z.cps.toList.map fun c => T.str ⟨#[c]⟩) := by
  refine ⟨fun _ => True, (fun i H v H' => H' = H ∧ ∃ c, z.cps[i]? = some c ∧ v = .str ⟨#[c]⟩), ?_, fun _ _ _ => trivial, fun i F H x H' c y => ?_⟩
  · rw [List.length_map, Array.length_toList]
    exact walk_str
  · obtain ⟨rfl, ch, e, rfl⟩ := y
    refine ⟨F, _, ?_, Up.refl c.wd, .str _⟩
    rw [List.getElem?_map, Array.getElem?_toList, e]
    rfl
theorem i_str (h : SE d te me) : SI d none (iStr te) (miS me) := by
  intro F H σ σ' st _ k hk R q
  refine h F H σ σ' st _ hk _ fun v x F1 H1 u1 r1 h1 => ?_
  split at h1
  · cases r1
    exact ⟨_, rfl, q _ _ F1 H1 u1 wt_str h1⟩
  · cases h1
/-- pairs that are laid as they come -/
theorem wt_pair {F1 H1 : Hp} {J : It} {n : Nat} {G : Hp → Prop} {f g : Nat → Option V} {ts : List T} (w : Walk J n G (YPair f g)) (hn : ts.length = n) (hG : ∀ F H, Cur d F1 H1 F H → G H)
    (hr : ∀ (i : Nat) (x y : V), f i = some x → g i = some y → ∃ t u, ts[i]? = some (.tpl [t, u]) ∧ RT F1 x t ∧ RT F1 y u) : WT d F1 H1 J ts := by
  refine ⟨G, YPair f g, by rw [hn]; exact w, hG, fun i F H x H' c y => ?_⟩
  obtain ⟨p, a, b, rfl, fr, rfl, hx, hy⟩ := y
  obtain ⟨t, u, h1, h2, h3⟩ := hr i a b hx hy
  have up := up_lay (o := .tup [a, b]) c.wd fr
  exact ⟨_, _, h1, up, .tpl upd_same (.cons ((h2.mono c.le).mono up.f) (.cons ((h3.mono c.le).mono up.f) .nil))⟩
def enumT : Int → List T → List T
  | _, [] => []
  | i, t :: ts => .tpl [.int i, t] :: enumT (i + 1) ts
theorem enumT_len : ∀ (ts : List T) (i : Int), (enumT i ts).length = ts.length
  | [], _ => rfl
  | t :: ts, i => congrArg Nat.succ (enumT_len ts (i + 1))
theorem enumT_at : ∀ (ts : List T) (lo : Int) (i : Nat) (t : T), ts[i]? = some t → (enumT lo ts)[i]? = some (.tpl [.int (lo + i), t])
  | [], _, _, _, h => by simp at h
  | u :: ts, lo, 0, t, h => by
    simp at h
    subst h
    show some (T.tpl [T.int lo, u]) = some (T.tpl [T.int (lo + ((0 : Nat) : Int)), u])
    rw [show lo + ((0 : Nat) : Int) = lo by omega]
  | u :: ts, lo, i + 1, t, h => by
    show (enumT (lo + 1) ts)[i]? = _
    rw [enumT_at ts (lo + 1) i t (by simpa using h), show lo + 1 + (i : Int) = lo + ((i + 1 : Nat) : Int) by omega]
def miEnum (m : MA) : MI := fun σ k => m σ fun xs => match xs with
  | [.lst ts] => k (enumT 0 ts)
  | _ => false
theorem i_enum {ta : TA} {ma : MA} (h : SA d ta ma) : SI d none (iEnum Cl.K ta) (miEnum ma) := by
  intro F H σ σ' st _ k hk R q
  refine h F H σ σ' st _ hk _ fun vs xs F1 H1 u1 r1 h1 => ?_
  split at h1
  · obtain ⟨v, rfl, r⟩ := rts1 r1
    cases r with
    | lst f r =>
      refine ⟨_, _, rfl, rd_sql u1.wd f, q _ _ F1 H1 u1 (wt_pair (walk_enum (K := Cl.K)) ((enumT_len _ _).trans r.len.symm) (fun F H c => rd_sql c.wd (c.le _ _ f)) fun i x y hx hy => ?_) h1⟩
      obtain ⟨t, e1, e2⟩ := RTs.at' r hy
      cases hx
      refine ⟨_, t, enumT_at _ 0 i t e1, ?_, e2⟩
      rw [show (0 : Int) + (i : Int) = (i : Int) by omega]
      exact .int _
  · cases h1
def zipT : List T → List T → List T
  | t :: ts, u :: us => .tpl [t, u] :: zipT ts us
  | _, _ => []
theorem zipT_len : ∀ (ts us : List T), (zipT ts us).length = min ts.length us.length
  | [], us => by
    unfold zipT
    simp
  | t :: ts, [] => by
    unfold zipT
    simp
  | t :: ts, u :: us => by
    unfold zipT
    rw [List.length_cons, zipT_len ts us, List.length_cons, List.length_cons]
    omega
theorem zipT_at : ∀ (ts us : List T) (i : Nat) (t u : T), ts[i]? = some t → us[i]? = some u → (zipT ts us)[i]? = some (.tpl [t, u])
  | [], _, _, _, _, h, _ => by simp at h
  | _ :: _, [], _, _, _, _, h => by simp at h
  | a :: ts, b :: us, 0, t, u, h, g => by
    simp at h g
    subst h g
    rfl
  | a :: ts, b :: us, i + 1, t, u, h, g => zipT_at ts us i t u (by simpa using h) (by simpa using g)
def miZip (m : MA) : MI := fun σ k => m σ fun xs => match xs with
  | [.lst ts, .lst us] => k (zipT ts us)
  | _ => false
theorem i_zip {ta : TA} {ma : MA} (h : SA d ta ma) : SI d none (iZip Cl.K ta) (miZip ma) := by
  intro F H σ σ' st _ k hk R q
  refine h F H σ σ' st _ hk _ fun vs xs F1 H1 u1 r1 h1 => ?_
  split at h1
  · obtain ⟨v, w, rfl, r, s⟩ := rts2 r1
    cases r with
    | lst f r =>
      cases s with
      | lst g s =>
        refine ⟨_, _, _, _, rfl, rd_sql u1.wd f, rd_sql u1.wd g, q _ _ F1 H1 u1 (wt_pair (walk_zip (K := Cl.K) rfl) (by rw [zipT_len, r.len, s.len]) (fun F H c => ⟨rd_sql c.wd (c.le _ _ f), rd_sql c.wd (c.le _ _ g)⟩) fun i x y hx hy => ?_) h1⟩
        obtain ⟨t, e1, e2⟩ := RTs.at' r hx
        obtain ⟨t', e3, e4⟩ := RTs.at' s hy
        exact ⟨t, t', zipT_at _ _ i t t' e1 e3, e2, e4⟩
  · cases h1
end
end Tr
set_option maxRecDepth 100000
set_option maxHeartbeats 4000000
/-! Trees: comprehensions. -/
namespace Tr
open PySem PySem.Spec PyProof.Rows L2 Tm
variable [Cl] [Tt]
section
variable {d : Option Addr} {te tk tv : TE} {me mk mv : ME} {wi wi1 : TI} {mi mi1 : MI} {g g1 : TG} {mg mg1 : MG} {is is1 : List Nat} {tt tt1 : TT} {mt mt1 : MT} {vs vs1 : List Nat} {pre : Option Nat}
/-- with a locked dict, perhaps -/
def SOp' (d : Option Addr) (pre : Option Nat) (t : TE) (m : ME) : Prop := ∀ F H σ σ', Sts d F H σ' σ → Lkd pre H σ' σ → ∀ k : T → Bool, m σ' k = true → ∀ Q : VK,
  (∀ p x F' H', Up d F H F' H' → H p = none → F' p = none → OwnAt F' H' p x → k x = true → Q (.ref p) H') → t σ H Q
theorem SOp'.so {t : TE} {m : ME} (h : SOp' d none t m) : SO d t m := fun F H σ σ' st => h F H σ σ' st fun _ z => nomatch z
def lcGo (mg : MG) (mt : MT) (me : ME) (σ0 : Sg) : List T → List T → (List T → Bool) → Bool
  | [], acc, k => k acc
  | t :: ts, acc, k => mg t σ0 fun σ2 => mt σ2 fun b => if b then me σ2 fun y => decide (acc.length < 16777216) && lcGo mg mt me σ0 ts (acc ++ [y]) k else lcGo mg mt me σ0 ts acc k
def mLc (mi : MI) (mg : MG) (mt : MT) (me : ME) (vs : List Nat) : ME := fun σ k => mi σ fun ts => lcGo mg mt me (mWipe σ vs) ts [] fun acc => k (.lst acc)
/-- the list that grows -/
structure Grow (d : Option Addr) (F1 H1 : Hp) (D : Addr) (F H : Hp) (acc : List T) : Prop where
  up : Up d F1 H1 F H
  nf : F D = none
  at_ : ∃ ws, H D = some (.lst ws) ∧ RTs F ws acc
theorem Grow.step {F1 H1 F H F' H' : Hp} {D : Addr} {acc : List T} (w : Wd d F1 H1) (hD : H1 D = none) (gr : Grow d F1 H1 D F H acc) (u : Up d F H F' H') : Grow d F1 H1 D F' H' acc := by
  obtain ⟨ws, e, r⟩ := gr.at_
  have c := tape_nn w hD
  exact ⟨gr.up.trans u w, by rw [u.fresh D (by rw [e]; exact fun z => nomatch z)]; exact gr.nf, ws, u.keep D _ c (nt_lst _) e, r.mono u.f⟩
theorem up_put {F1 H1 F H : Hp} {D : Addr} {o o0 : HO} (w : Wd d F1 H1) (hD : H1 D = none) (u : Up d F1 H1 F H) (nf : F D = none) (e0 : H D = some o0) (c0 : Chg o0) : Up d F1 H1 F (upd H D o) := by
  have c := tape_nn w hD
  refine ⟨u.f, fun a x n nt e => ?_, fun a ha => there_upd a (u.there a ha), u.fresh, u.wd.dt, fun a x e => ?_, fun x hx => ?_, tabs_put u.wd.tabs e0 c0, u.wd.nt⟩
  · rw [upd_ne (ne_of_none e hD)]
    exact u.keep a x n nt e
  · have : a ≠ D := fun z => by rw [z, nf] at e; cases e
    rcases u.wd.sub a x e with z | ⟨ob, kvs, ee, z⟩
    · exact .is (by rw [upd_ne this]; exact z)
    · exact .lock ob kvs ee (by rw [upd_ne this]; exact z)
  · obtain ⟨⟨Dd, M, hd, tp⟩, t2⟩ := u.wd.tape x hx
    have : x ≠ D := fun z => c (by rw [← z]; exact hx)
    exact ⟨⟨Dd, M, by rw [upd_ne this]; exact hd, tp⟩, t2⟩
theorem Grow.add {F1 H1 F H : Hp} {D : Addr} {acc : List T} {v : V} {t : T} {ws : List V} (w : Wd d F1 H1) (hD : H1 D = none) (gr : Grow d F1 H1 D F H acc) (e : H D = some (.lst ws)) (r : RTs F ws acc) (rv : RT F v t) :
    Grow d F1 H1 D F (upd H D (.lst (ws ++ [v]))) (acc ++ [t]) := ⟨up_put w hD gr.up gr.nf e (.lst _), gr.nf, _, upd_same, r.snoc rv⟩
theorem o_lc (hi : SI d pre wi mi) (hg : SG d g mg is) (hs : (is.all fun i => decide (i ∈ vs)) = true) (ht : ST d tt mt) (he : SE d te me) : SOp' d pre (tLc wi g tt te vs) (mLc mi mg mt me vs) := by
  intro F H σ σ' st lk k hk Q q
  have hs' : ∀ i ∈ is, i ∈ vs := fun i h => of_decide_eq_true (List.all_eq_true.mp hs i h)
  refine hi F H σ σ' st lk _ hk _ fun J ts F1 H1 u1 wt h1 D hD => ?_
  obtain ⟨G, Y, wk, hG, hY⟩ := wt.ex
  have st1 := st.up u1
  have w1 := u1.wd
  refine lc_it wk (fun i H => ∃ F acc, Grow d F1 H1 D F H acc ∧ lcGo mg mt me (mWipe σ' vs) (ts.drop i) acc (fun acc => k (.lst acc)) = true) ⟨F1, [], ⟨up_new w1 hD, f_none w1 hD, [], upd_same, .nil⟩, by rw [List.drop_zero]; exact h1⟩ (fun i Hc _ ⟨Fc, acc, gr, _⟩ => hG Fc Hc (up_cur w1 gr.up)) ?_ ?_
  · rintro i x Hc Hn hi2 ⟨Fc, acc, gr, hk2⟩ y
    obtain ⟨Fn, t, et, un, rt⟩ := hY i Fc Hc x Hn (up_cur w1 gr.up) y
    have gn := gr.step w1 hD un
    have stn := ((st1.up gr.up).up un).wiped vs
    have dr : ts.drop i = t :: ts.drop (i + 1) := by
      rw [List.drop_eq_getElem_cons hi2]
      congr 1
      rw [List.getElem?_eq_getElem hi2] at et
      exact Option.some.inj et
    rw [dr] at hk2
    refine hg Fn Hn _ _ x t stn rt _ hk2 _ fun τ τ' n h2 => ⟨?_, ?_⟩
    · rw [n.wp vs hs', wipe_wipe]
    refine ht Fn Hn τ τ' n.st _ h2 _ fun b F3 H3 u3 h3 => ?_
    have g3 := gn.step w1 hD u3
    cases b with
    | false => exact iteF ⟨F3, acc, g3, h3⟩
    | true =>
      refine iteT (he F3 H3 τ τ' (n.st.up u3) _ h3 _ fun v z F4 H4 u4 r4 h4 => ?_)
      rw [Bool.and_eq_true, decide_eq_true_eq] at h4
      have g4 := g3.step w1 hD u4
      obtain ⟨ws, e, r⟩ := g4.at_
      exact ⟨ws, e, by rw [r.len, sizeLine_eq]; exact h4.1, F4, _, g4.add w1 hD e r r4, h4.2⟩
  · rintro Hc ⟨Fc, acc, gr, hk2⟩
    rw [List.drop_length] at hk2
    obtain ⟨ws, e, r⟩ := gr.at_
    exact q D _ Fc Hc (u1.trans gr.up st.wd) (none_back u1 st.wd hD) gr.nf (show OwnAt Fc Hc D (.lst acc) from ⟨ws, e, r⟩) hk2
theorem pr_mono_at {α β : Type} {R S : α → β → Prop} : ∀ {l : List α} {m : List β}, Paired R l m → (∀ (i : Nat) a b, l[i]? = some a → m[i]? = some b → R a b → S a b) → Paired S l m
  | _, _, .nil, _ => .nil
  | _, _, .cons r t, h => .cons (h 0 _ _ rfl rfl r) (pr_mono_at t fun i a b e f q => h (i + 1) a b (by simpa using e) (by simpa using f) q)
/-- no own slot holds it -/
def NoOwn (D : Addr) (σ' : Sg) (σ : L2.St) : Prop := ∀ (i : Nat) (t : T) (p : Addr), σ'[i]? = some (Sl.own t) → σ[i]? = some (some (V.ref p)) → p ≠ D
theorem NoOwn.le {D : Addr} {σ' τ' : Sg} {σ τ : L2.St} (h : NoOwn D σ' σ) (o : OwnLe τ' τ σ' σ) : NoOwn D τ' τ := fun i t p a b =>
  let ⟨x, y⟩ := o i t p a b
  h i t p x y
theorem noOwn_new {F H : Hp} {D : Addr} {σ' : Sg} {σ : L2.St} (s : Sts d F H σ' σ) (h : H D = none) : NoOwn D σ' σ := fun i t p a b z => by
  obtain ⟨p', e1, o, _, _⟩ := s.ownAt a
  rw [b] at e1
  cases e1
  obtain ⟨ob, e⟩ := o.some
  rw [z, h] at e
  cases e
theorem ownLe_wipe {σ' : Sg} {σ : L2.St} : ∀ vs : List Nat, OwnLe (mWipe σ' vs) (wipe σ vs) σ' σ
  | [] => OwnLe.refl
  | _ :: vs => (ownLe_set (s := .un) (fun _ z => nomatch z)).trans (ownLe_wipe vs)
theorem Sts.put {F H : Hp} {D : Addr} {o : HO} {σ' : Sg} {σ : L2.St} (s : Sts d F H σ' σ) (w : Wd d F (upd H D o)) (n : NoOwn D σ' σ) : Sts d F (upd H D o) σ' σ :=
  ⟨w, pr_mono_at s.sl fun i a b e f q => by
    cases q with
    | un => exact .un _
    | val r => exact .val r
    | own ow nf c =>
      rename_i p t
      have ne := n i t p e f
      exact .own (ow.mono (Le.refl _) (upd_ne ne)) nf c, s.dj⟩
/-! two fors -/
def lcGo1 (mg1 : MG) (mt1 : MT) (me : ME) (σ0 : Sg) : List T → List T → (List T → Bool) → Bool
  | [], acc, k => k acc
  | t :: ts, acc, k => mg1 t σ0 fun σ2 => mt1 σ2 fun b => if b then me σ2 fun y => decide (acc.length < 16777216) && lcGo1 mg1 mt1 me σ0 ts (acc ++ [y]) k else lcGo1 mg1 mt1 me σ0 ts acc k
def lcGo2 (mg : MG) (mt : MT) (mi1 : MI) (mg1 : MG) (mt1 : MT) (me : ME) (vs1 : List Nat) (σ0 : Sg) : List T → List T → (List T → Bool) → Bool
  | [], acc, k => k acc
  | t :: ts, acc, k => mg t σ0 fun σ2 => mt σ2 fun b => if b then mi1 σ2 fun us => lcGo1 mg1 mt1 me (mWipe σ2 vs1) us acc fun acc2 => lcGo2 mg mt mi1 mg1 mt1 me vs1 σ0 ts acc2 k else lcGo2 mg mt mi1 mg1 mt1 me vs1 σ0 ts acc k
def mLc2 (mi : MI) (mg : MG) (mt : MT) (mi1 : MI) (mg1 : MG) (mt1 : MT) (me : ME) (vs vs1 : List Nat) : ME := fun σ k => mi σ fun ts => lcGo2 mg mt mi1 mg1 mt1 me vs1 (mWipe σ vs) ts [] fun acc => k (.lst acc)
/-- the turns of a walk -/
theorem turns {J : It} {n : Nat} {G : Hp → Prop} {Y : Nat → Hp → V → Hp → Prop} (w : Walk J n G Y) {Qd : Hp → Prop} {B : V → Hp → (Hp → Prop) → Prop} (Pv : Nat → Hp → Prop) {H0 : Hp} (h0 : Pv 0 H0) (hG : ∀ i H, i ≤ n → Pv i H → G H)
    (hs : ∀ i x H H', i < n → Pv i H → Y i H x H' → B x H' (Pv (i + 1))) (hd : ∀ H, Pv n H → Qd H) :
    ∃ W : Nat → Nat → Hp → Prop, (∃ m, W 0 m H0) ∧ ∀ i m H, W i m H → (J.stop i H ∧ Qd H) ∨ (J.go i H ∧ ∃ Nx : Hp → Prop, (∀ H', Nx H' → ∃ m', m' < m ∧ W (i + 1) m' H') ∧ ∀ x H', J.yld i H x H' → B x H' Nx) := by
  refine ⟨fun i m H => m = n - i ∧ i ≤ n ∧ Pv i H, ⟨n, by simp, Nat.zero_le _, h0⟩, ?_⟩
  rintro i m H ⟨rfl, hi, p⟩
  have q := hG i H hi p
  by_cases hlt : i < n
  · exact .inr ⟨w.goes i H hlt q, Pv (i + 1), fun H' p' => ⟨n - (i + 1), by omega, rfl, hlt, p'⟩, fun x H' y => hs i x H H' hlt p (w.yields i H x H' hlt q y)⟩
  · have e : i = n := by omega
    subst e
    exact .inl ⟨w.stops H q, hd H p⟩
theorem o_lc2 (hi : SI d pre wi mi) (hg : SG d g mg is) (hs : (is.all fun i => decide (i ∈ vs)) = true) (ht : ST d tt mt) (hi1 : SI d none wi1 mi1) (hg1 : SG d g1 mg1 is1) (hs1 : (is1.all fun i => decide (i ∈ vs1)) = true) (ht1 : ST d tt1 mt1) (he : SE d te me) :
    SOp' d pre (tLc2 wi g tt wi1 g1 tt1 te vs vs1) (mLc2 mi mg mt mi1 mg1 mt1 me vs vs1) := by
  intro F H σ σ' st lk k hk Q q
  have hs' : ∀ i ∈ is, i ∈ vs := fun i h => of_decide_eq_true (List.all_eq_true.mp hs i h)
  have hs1' : ∀ i ∈ is1, i ∈ vs1 := fun i h => of_decide_eq_true (List.all_eq_true.mp hs1 i h)
  refine hi F H σ σ' st lk _ hk _ fun J ts F1 H1 u1 wt h1 D hD => ?_
  obtain ⟨G, Y, wk, hG, hY⟩ := wt.ex
  have st1 := st.up u1
  have w1 := u1.wd
  refine turns wk (fun i H => ∃ F acc, Grow d F1 H1 D F H acc ∧ lcGo2 mg mt mi1 mg1 mt1 me vs1 (mWipe σ' vs) (ts.drop i) acc (fun acc => k (.lst acc)) = true) ⟨F1, [], ⟨up_new w1 hD, f_none w1 hD, [], upd_same, .nil⟩, by rw [List.drop_zero]; exact h1⟩ (fun i Hc _ ⟨Fc, acc, gr, _⟩ => hG Fc Hc (up_cur w1 gr.up)) ?_ ?_
  · rintro i x Hc Hn hi2 ⟨Fc, acc, gr, hk2⟩ y
    obtain ⟨Fn, t, et, un, rt⟩ := hY i Fc Hc x Hn (up_cur w1 gr.up) y
    have gn := gr.step w1 hD un
    have stn := ((st1.up gr.up).up un).wiped vs
    have dr : ts.drop i = t :: ts.drop (i + 1) := by
      rw [List.drop_eq_getElem_cons hi2]
      congr 1
      rw [List.getElem?_eq_getElem hi2] at et
      exact Option.some.inj et
    rw [dr] at hk2
    refine hg Fn Hn _ _ x t stn rt _ hk2 _ fun τ τ' n h2 => ⟨?_, ?_⟩
    · rw [n.wp vs hs', wipe_wipe]
    refine ht Fn Hn τ τ' n.st _ h2 _ fun b F3 H3 u3 h3 => ?_
    have g3 := gn.step w1 hD u3
    cases b with
    | false => exact iteF ⟨F3, acc, g3, h3⟩
    | true =>
      have st3 := n.st.up u3
      have no : NoOwn D τ' τ := (noOwn_new st1 hD).le (n.own.trans (ownLe_wipe vs))
      refine iteT (hi1 F3 H3 τ τ' st3 (fun _ z => nomatch z) _ h3 _ fun J1 us F4 H4 u4 wt1 h4 => ?_)
      obtain ⟨G1, Y1, wk1, hG1, hY1⟩ := wt1.ex
      have g4 := g3.step w1 hD u4
      have st4 := st3.up u4
      have w4 := u4.wd
      refine turns wk1 (fun j H => ∃ F acc, Grow d F1 H1 D F H acc ∧ Sts d F H τ' τ ∧ Cur d F4 H4 F H ∧ lcGo1 mg1 mt1 me (mWipe τ' vs1) (us.drop j) acc (fun acc2 => lcGo2 mg mt mi1 mg1 mt1 me vs1 (mWipe σ' vs) (ts.drop (i + 1)) acc2 (fun acc => k (.lst acc))) = true)
        ⟨F4, acc, g4, st4, ⟨Le.refl _, w4, fun _ _ _ _ h => h⟩, by rw [List.drop_zero]; exact h4⟩ (fun j Hd _ ⟨Fd, ac, _, _, c, _⟩ => hG1 Fd Hd c) ?_ ?_
      · rintro j x2 Hd He hj ⟨Fd, ac, gd, sd, cd, hk5⟩ y2
        obtain ⟨Fe, t2, et2, ue, rt2⟩ := hY1 j Fd Hd x2 He cd y2
        have ge := gd.step w1 hD ue
        have se := sd.up ue
        have lk2 : ∀ {F H F' H'}, Cur d F4 H4 F H → Up d F H F' H' → Cur d F4 H4 F' H' := fun {F H F' H'} c u => ⟨c.le.trans u.f, u.wd, fun a ob o f h => by
          have : d ≠ some a := fun z => by
            have := (c.wd.tape a z).2
            rw [c.le _ _ f] at this
            cases this
          exact u.keep a _ this (nt_frz _ _) (c.lk a ob o f h)⟩
        have ce := lk2 cd ue
        have dr2 : us.drop j = t2 :: us.drop (j + 1) := by
          rw [List.drop_eq_getElem_cons hj]
          congr 1
          rw [List.getElem?_eq_getElem hj] at et2
          exact Option.some.inj et2
        rw [dr2] at hk5
        refine hg1 Fe He _ _ x2 t2 (se.wiped vs1) rt2 _ hk5 _ fun ρ ρ' n2 h6 => ⟨?_, ?_⟩
        · rw [n2.wp vs1 hs1', wipe_wipe]
        refine ht1 Fe He ρ ρ' n2.st _ h6 _ fun b F7 H7 u7 h7 => ?_
        have g7 := ge.step w1 hD u7
        have s7 := se.up u7
        have c7 := lk2 ce u7
        cases b with
        | false => exact iteF ⟨F7, ac, g7, s7, c7, h7⟩
        | true =>
          refine iteT (he F7 H7 ρ ρ' (n2.st.up u7) _ h7 _ fun v z F8 H8 u8 r8 h8 => ?_)
          rw [Bool.and_eq_true, decide_eq_true_eq] at h8
          have g8 := g7.step w1 hD u8
          have s8 := s7.up u8
          have c8 := lk2 c7 u8
          obtain ⟨ws, e, r⟩ := g8.at_
          have ga := g8.add w1 hD e r r8
          refine ⟨ws, e, by rw [r.len, sizeLine_eq]; exact h8.1, F8, _, ga, s8.put ga.up.wd no, ⟨c8.le, ga.up.wd, fun a ob o f h => ?_⟩, h8.2⟩
          have : a ≠ D := fun z => by
            have := c8.le a _ f
            rw [z, g8.nf] at this
            cases this
          rw [upd_ne this]
          exact c8.lk a ob o f h
      · rintro Hd ⟨Fd, ac, gd, sd, cd, hk5⟩
        rw [List.drop_length] at hk5
        exact ⟨Fd, ac, gd, hk5⟩
  · rintro Hc ⟨Fc, acc, gr, hk2⟩
    rw [List.drop_length] at hk2
    obtain ⟨ws, e, r⟩ := gr.at_
    exact q D _ Fc Hc (u1.trans gr.up st.wd) (none_back u1 st.wd hD) gr.nf (show OwnAt Fc Hc D (.lst acc) from ⟨ws, e, r⟩) hk2
end
end Tr
set_option maxRecDepth 100000
set_option maxHeartbeats 4000000
/-! Trees: dict comprehensions, dicts walked. -/
namespace Tr
open PySem PySem.Spec PyProof.Rows L2 Tm
variable [Cl] [Tt]
section
variable {d : Option Addr} {te tk tv : TE} {me mk mv : ME} {wi : TI} {mi : MI} {g : TG} {mg : MG} {is : List Nat} {tt : TT} {mt : MT} {vs : List Nat} {pre : Option Nat}
def dcGo (mg : MG) (mt : MT) (mk mv : ME) (σ0 : Sg) : List T → List (Key × T) → (List (Key × T) → Bool) → Bool
  | [], acc, k => k acc
  | t :: ts, acc, k => mg t σ0 fun σ2 => mt σ2 fun b => if b then mk σ2 fun x => mv σ2 fun y => match keyT x with
    | some j => decide (acc.length < 16777216) && dcGo mg mt mk mv σ0 ts (putT acc j y) k
    | none => false
    else dcGo mg mt mk mv σ0 ts acc k
def mDc (mi : MI) (mg : MG) (mt : MT) (mk mv : ME) (vs : List Nat) : ME := fun σ k => mi σ fun ts => dcGo mg mt mk mv (mWipe σ vs) ts [] fun acc => k (.dic acc)
structure GrowD (d : Option Addr) (F1 H1 : Hp) (D : Addr) (F H : Hp) (acc : List (Key × T)) : Prop where
  up : Up d F1 H1 F H
  nf : F D = none
  at_ : ∃ ws, H D = some (.dK ws) ∧ RTd F ws acc
theorem GrowD.step {F1 H1 F H F' H' : Hp} {D : Addr} {acc : List (Key × T)} (w : Wd d F1 H1) (hD : H1 D = none) (gr : GrowD d F1 H1 D F H acc) (u : Up d F H F' H') : GrowD d F1 H1 D F' H' acc := by
  obtain ⟨ws, e, r⟩ := gr.at_
  have c := tape_nn w hD
  exact ⟨gr.up.trans u w, by rw [u.fresh D (by rw [e]; exact fun z => nomatch z)]; exact gr.nf, ws, u.keep D _ c (nt_dK _) e, r.mono u.f⟩
theorem o_dc (hi : SI d pre wi mi) (hg : SG d g mg is) (hs : (is.all fun i => decide (i ∈ vs)) = true) (ht : ST d tt mt) (hk : SE d tk mk) (hv : SE d tv mv) : SOp' d pre (tDc wi g tt tk tv vs) (mDc mi mg mt mk mv vs) := by
  intro F H σ σ' st lk k hkk Q q
  have hs' : ∀ i ∈ is, i ∈ vs := fun i h => of_decide_eq_true (List.all_eq_true.mp hs i h)
  refine hi F H σ σ' st lk _ hkk _ fun J ts F1 H1 u1 wt h1 D hD => ?_
  obtain ⟨G, Y, wk, hG, hY⟩ := wt.ex
  have st1 := st.up u1
  have w1 := u1.wd
  refine dc_it wk (fun i H => ∃ F acc, GrowD d F1 H1 D F H acc ∧ dcGo mg mt mk mv (mWipe σ' vs) (ts.drop i) acc (fun acc => k (.dic acc)) = true) ⟨F1, [], ⟨up_new w1 hD, f_none w1 hD, [], upd_same, .nil⟩, by rw [List.drop_zero]; exact h1⟩ (fun i Hc _ ⟨Fc, acc, gr, _⟩ => hG Fc Hc (up_cur w1 gr.up)) ?_ ?_
  · rintro i x Hc Hn hi2 ⟨Fc, acc, gr, hk2⟩ y
    obtain ⟨Fn, t, et, un, rt⟩ := hY i Fc Hc x Hn (up_cur w1 gr.up) y
    have gn := gr.step w1 hD un
    have stn := ((st1.up gr.up).up un).wiped vs
    have dr : ts.drop i = t :: ts.drop (i + 1) := by
      rw [List.drop_eq_getElem_cons hi2]
      congr 1
      rw [List.getElem?_eq_getElem hi2] at et
      exact Option.some.inj et
    rw [dr] at hk2
    refine hg Fn Hn _ _ x t stn rt _ hk2 _ fun τ τ' n h2 => ⟨?_, ?_⟩
    · rw [n.wp vs hs', wipe_wipe]
    refine ht Fn Hn τ τ' n.st _ h2 _ fun b F3 H3 u3 h3 => ?_
    have g3 := gn.step w1 hD u3
    cases b with
    | false => exact iteF ⟨F3, acc, g3, h3⟩
    | true =>
      refine iteT (hk F3 H3 τ τ' (n.st.up u3) _ h3 _ fun v z F4 H4 u4 r4 h4 => ?_)
      have g4 := g3.step w1 hD u4
      refine hv F4 H4 τ τ' ((n.st.up u3).up u4) _ h4 _ fun v5 z5 F5 H5 u5 r5 h5 => ?_
      have g5 := g4.step w1 hD u5
      split at h5
      · rename_i j ej
        obtain rfl := keyT_rt r4 ej
        rw [Bool.and_eq_true, decide_eq_true_eq] at h5
        obtain ⟨ws, e, r⟩ := g5.at_
        exact ⟨ws, j, rfl, e, by rw [r.len, sizeLine_eq]; exact h5.1, F5, _, ⟨up_put w1 hD g5.up g5.nf e (.dK _), g5.nf, _, upd_same, putT_rt r5 r⟩, h5.2⟩
      · cases h5
  · rintro Hc ⟨Fc, acc, gr, hk2⟩
    rw [List.drop_length] at hk2
    obtain ⟨ws, e, r⟩ := gr.at_
    exact q D _ Fc Hc (u1.trans gr.up st.wd) (none_back u1 st.wd hD) gr.nf (show OwnAt Fc Hc D (.dic acc) from ⟨ws, e, r⟩) hk2
/-! a dict in a slot, walked -/
def pairsT : List (Key × T) → List T
  | [] => []
  | (.inl i, t) :: r => .tup [.int i, t] :: pairsT r
  | (.inr z, t) :: r => .tup [.str z, t] :: pairsT r
def keysT : List (Key × T) → List T
  | [] => []
  | (.inl i, _) :: r => .int i :: keysT r
  | (.inr z, _) :: r => .str z :: keysT r
def valsT : List (Key × T) → List T
  | [] => []
  | (_, t) :: r => t :: valsT r
def kT : Key → T
  | .inl i => .int i
  | .inr z => .str z
theorem kT_rt {F : Hp} (k : Key) : RT F (kV k) (kT k) := by
  cases k
  · exact .int _
  · exact .str _
theorem pairsT_eq : ∀ l : List (Key × T), pairsT l = l.map fun kv => .tup [kT kv.1, kv.2]
  | [] => rfl
  | (.inl _, _) :: r => congrArg (List.cons _) (pairsT_eq r)
  | (.inr _, _) :: r => congrArg (List.cons _) (pairsT_eq r)
/-- the pairs as a walk tells them -/
def pairsL (l : List (Key × T)) : List T := l.map fun kv => .tpl [kT kv.1, kv.2]
theorem pairsL_eq (l : List (Key × T)) : pairsL l = l.map fun kv => .tpl [kT kv.1, kv.2] := rfl
theorem keysT_eq : ∀ l : List (Key × T), keysT l = l.map fun kv => kT kv.1
  | [] => rfl
  | (.inl _, _) :: r => congrArg (List.cons _) (keysT_eq r)
  | (.inr _, _) :: r => congrArg (List.cons _) (keysT_eq r)
theorem valsT_eq : ∀ l : List (Key × T), valsT l = l.map fun kv => kv.2
  | [] => rfl
  | (_, _) :: r => congrArg (List.cons _) (valsT_eq r)
theorem RTd.at' {F : Hp} : ∀ {kvs : List (Key × V)} {kts : List (Key × T)} {i : Nat} {k : Key} {v : V}, RTd F kvs kts → kvs[i]? = some (k, v) → ∃ t, kts[i]? = some (k, t) ∧ RT F v t
  | [], _, i, k, v, h, e => by simp at e
  | p :: kvs, _, 0, k, v, h, e => by
    cases h with
    | cons a b =>
      simp at e
      obtain ⟨rfl, rfl⟩ := e
      exact ⟨_, rfl, a⟩
  | p :: kvs, _, i + 1, k, v, h, e => by
    cases h with
    | cons a b =>
      obtain ⟨t, h1, h2⟩ := RTd.at' b (by simpa using e)
      exact ⟨t, by simpa using h1, h2⟩
/-- the slot's own dict: which one -/
theorem dic_at {F H : Hp} {σ : L2.St} {σ' : Sg} {i : Nat} {kts : List (Key × T)} (st : Sts d F H σ' σ) (e : σ'[i]? = some (Sl.val (.dic kts))) : ∃ a kvs, σ[i]? = some (some (.ref a)) ∧ F a = some (.dK kvs) ∧ RTd F kvs kts := by
  obtain ⟨v, h1, h2⟩ := st.at e
  cases h2 with
  | dic f r => exact ⟨_, _, h1, f, r⟩
def miVar (i : Nat) (f : List (Key × T) → List T) : MI := fun σ k => match σ[i]? with
  | some (.val (.dic kts)) => k (f kts)
  | _ => false
theorem lk_at {F H : Hp} {σ : L2.St} {σ' : Sg} {i : Nat} {a : Addr} {kvs : List (Key × V)} (w : Wd d F H) (lk : Lkd (some i) H σ' σ) (e : σ[i]? = some (some (.ref a))) (f : F a = some (.dK kvs)) : ∃ ob, H a = some (.frz ob (.dK kvs)) := by
  obtain ⟨a', ob, kvs', e1, e2⟩ := lk i rfl
  rw [e] at e1
  cases e1
  cases w.sub a _ f with
  | is h =>
    rw [e2] at h
    cases h
  | lock ob' _ _ h => exact ⟨ob', h⟩
theorem i_items {i : Nat} : SI d (some i) (iItems (tVar i)) (miVar i pairsL) := by
  intro F H σ σ' st lk k hk R q
  unfold miVar at hk
  split at hk
  · rename_i kts e
    obtain ⟨a, kvs, e1, f, r⟩ := dic_at st e
    obtain ⟨ob, hl⟩ := lk_at st.wd lk e1 f
    refine ⟨_, e1, a, ob, kvs, rfl, hl, q _ _ F H (Up.refl st.wd) (wt_pair (walk_items (d := a) (o := ob) (kvs := kvs)) (by rw [pairsL_eq, List.length_map]; exact r.len.symm) (fun F' H' c => c.lk a ob _ f hl) fun j x y hx hy => ?_) hk⟩
    obtain ⟨kv, hkv⟩ : ∃ kv, kvs[j]? = some kv := by
      cases q : kvs[j]? with
      | none => rw [q] at hx; cases hx
      | some kv => exact ⟨kv, rfl⟩
    rw [hkv] at hx hy
    cases hx
    cases hy
    obtain ⟨t, e2, e3⟩ := RTd.at' (k := kv.1) (v := kv.2) r hkv
    exact ⟨kT kv.1, t, by rw [pairsL_eq, List.getElem?_map, e2]; rfl, kT_rt _, e3⟩
  · cases hk
theorem i_keysM {i : Nat} : SI d (some i) (iKeysM (tVar i)) (miVar i keysT) := by
  intro F H σ σ' st lk k hk R q
  unfold miVar at hk
  split at hk
  · rename_i kts e
    obtain ⟨a, kvs, e1, f, r⟩ := dic_at st e
    obtain ⟨ob, hl⟩ := lk_at st.wd lk e1 f
    refine ⟨_, e1, a, ob, kvs, rfl, hl, q _ _ F H (Up.refl st.wd) ⟨_, _, by
      have := walk_keys (d := a) (o := ob) (kvs := kvs)
      rw [r.len] at this
      rw [keysT_eq, List.length_map]
      exact this, fun F' H' c => c.lk a ob _ f hl, fun j F' H' x H2 c y => ?_⟩ hk⟩
    obtain ⟨rfl, k', v', e2, rfl⟩ := y
    obtain ⟨t, e3, _⟩ := RTd.at' r e2
    exact ⟨F', kT k', by rw [keysT_eq, List.getElem?_map, e3]; rfl, Up.refl c.wd, kT_rt _⟩
  · cases hk
theorem i_keys {i : Nat} : SI d (some i) (iKeys (tVar i)) (miVar i keysT) := by
  intro F H σ σ' st lk k hk R q
  unfold miVar at hk
  split at hk
  · rename_i kts e
    obtain ⟨a, kvs, e1, f, r⟩ := dic_at st e
    obtain ⟨ob, hl⟩ := lk_at st.wd lk e1 f
    refine ⟨_, e1, a, ob, rfl, .inl ⟨kvs, hl, q _ _ F H (Up.refl st.wd) ⟨_, _, by
      have := walk_keys (d := a) (o := ob) (kvs := kvs)
      rw [r.len] at this
      rw [keysT_eq, List.length_map]
      exact this, fun F' H' c => c.lk a ob _ f hl, fun j F' H' x H2 c y => ?_⟩ hk⟩⟩
    obtain ⟨rfl, k', v', e2, rfl⟩ := y
    obtain ⟨t, e3, _⟩ := RTd.at' r e2
    exact ⟨F', kT k', by rw [keysT_eq, List.getElem?_map, e3]; rfl, Up.refl c.wd, kT_rt _⟩
  · cases hk
theorem i_values {i : Nat} : SI d (some i) (iVals (tVar i)) (miVar i valsT) := by
  intro F H σ σ' st lk k hk R q
  unfold miVar at hk
  split at hk
  · rename_i kts e
    obtain ⟨a, kvs, e1, f, r⟩ := dic_at st e
    obtain ⟨ob, hl⟩ := lk_at st.wd lk e1 f
    refine ⟨_, e1, a, ob, kvs, rfl, hl, q _ _ F H (Up.refl st.wd) ⟨_, _, by
      have := walk_values (d := a) (o := ob) (kvs := kvs)
      rw [r.len] at this
      rw [valsT_eq, List.length_map]
      exact this, fun F' H' c => c.lk a ob _ f hl, fun j F' H' x H2 c y => ?_⟩ hk⟩
    obtain ⟨rfl, k', e2⟩ := y
    obtain ⟨t, e3, e4⟩ := RTd.at' r e2
    exact ⟨F', t, by rw [valsT_eq, List.getElem?_map, e3]; rfl, Up.refl c.wd, e4.mono c.le⟩
  · cases hk
/-! locked while it is walked, if it is not locked already -/
def tLockA (t : TE) : TE := fun σ H Q => tLockE t σ H Q ∨ t σ H Q
theorem hd_chg {H : Hp} {a : Addr} {kvs : List (Key × V)} (h : Hd H a (.dK kvs)) : ∃ o, H a = some o ∧ Chg o := by
  cases h with
  | is h => exact ⟨_, h, .dK _⟩
  | lock ob _ _ h => exact ⟨_, h, .frz _ _⟩
theorem tabs_dic {F H : Hp} {a : Addr} {kvs : List (Key × V)} {o : HO} (w : Wd d F H) (f : F a = some (.dK kvs)) : LamX.Tabs Cl.tb (upd H a o) := by
  obtain ⟨o0, e, c⟩ := hd_chg (w.sub a _ f)
  exact tabs_put w.tabs e c
theorem wd_lock {F H : Hp} {a : Addr} {ob : Obj} {kvs : List (Key × V)} (w : Wd d F H) (f : F a = some (.dK kvs)) : Wd d F (upd H a (.frz ob (.dK kvs))) := by
  refine ⟨w.dt, fun b x e => ?_, fun x hx => ?_, tabs_dic w f, w.nt⟩
  · by_cases c : b = a
    · subst c
      rw [f] at e
      cases e
      exact .lock ob kvs rfl upd_same
    · rcases w.sub b x e with z | ⟨o2, k2, ee, z⟩
      · exact .is (by rw [upd_ne c]; exact z)
      · exact .lock o2 k2 ee (by rw [upd_ne c]; exact z)
  · obtain ⟨⟨D, M, hd, tp⟩, t2⟩ := w.tape x hx
    have : x ≠ a := fun z => by rw [z, f] at t2; cases t2
    exact ⟨⟨D, M, by rw [upd_ne this]; exact hd, tp⟩, t2⟩
theorem wd_unlock {F H : Hp} {a : Addr} {kvs : List (Key × V)} (w : Wd d F H) (f : F a = some (.dK kvs)) : Wd d F (upd H a (.dK kvs)) := by
  refine ⟨w.dt, fun b x e => ?_, fun x hx => ?_, tabs_dic w f, w.nt⟩
  · by_cases c : b = a
    · subst c
      rw [f] at e
      cases e
      exact .is upd_same
    · rcases w.sub b x e with z | ⟨o2, k2, ee, z⟩
      · exact .is (by rw [upd_ne c]; exact z)
      · exact .lock o2 k2 ee (by rw [upd_ne c]; exact z)
  · obtain ⟨⟨D, M, hd, tp⟩, t2⟩ := w.tape x hx
    have : x ≠ a := fun z => by rw [z, f] at t2; cases t2
    exact ⟨⟨D, M, by rw [upd_ne this]; exact hd, tp⟩, t2⟩
theorem noOwn_f {F H : Hp} {D : Addr} {o : HO} {σ' : Sg} {σ : L2.St} (s : Sts d F H σ' σ) (h : F D = some o) : NoOwn D σ' σ := fun i t p a b z => by
  obtain ⟨p', e1, ow, nf, _⟩ := s.ownAt a
  rw [b] at e1
  cases e1
  rw [z, h] at nf
  cases nf
def mLock (i : Nat) (m : ME) : ME := fun σ k => match σ[i]? with
  | some (.val (.dic _)) => m σ k
  | _ => false
theorem o_lock {i : Nat} {t : TE} {m : ME} (h : SOp' d (some i) t m) : SO d (tLockA t) (mLock i m) := by
  intro F H σ σ' st k hk Q q
  unfold mLock at hk
  split at hk
  · rename_i kts e
    obtain ⟨a, kvs, e1, f, r⟩ := dic_at st e
    cases st.wd.sub a _ f with
    | lock ob kvs' c hl => exact .inr (h F H σ σ' st (fun j hj => by cases hj; exact ⟨a, ob, kvs, e1, hl⟩) k hk Q q)
    | is ha =>
      refine .inl ⟨a, .dK kvs, ha, trivial, fun od => ?_⟩
      have w2 := wd_lock (ob := od) st.wd f
      have st2 : Sts d F (upd H a (.frz od (.dK kvs))) σ' σ := st.put w2 (noOwn_f st f)
      refine h F _ σ σ' st2 (fun j hj => by cases hj; exact ⟨a, od, kvs, e1, upd_same⟩) k hk _ fun p x F' H' u n1 n2 o hx => ?_
      have na : d ≠ some a := fun z => by
        have := (st.wd.tape a z).2
        rw [f] at this
        cases this
      have pa : p ≠ a := fun z => by
        rw [z, upd_same] at n1
        cases n1
      have fa : F' a = some (.dK kvs) := u.f _ _ f
      have hp : H p = none := by rw [upd_ne pa] at n1; exact n1
      refine ⟨u.keep a _ na (nt_frz _ _) upd_same, q p x F' _ ⟨u.f, fun b o n nt eb => ?_, fun b hb => there_upd b (u.there b (there_upd b hb)), fun b hb => ?_, wd_unlock u.wd fa⟩ hp n2 (o.mono (Le.refl _) (upd_ne pa)) hx⟩
      · by_cases c : b = a
        · subst c
          rw [ha] at eb
          cases eb
          exact upd_same
        · rw [upd_ne c]
          exact u.keep b o n nt (by rw [upd_ne c]; exact eb)
      · refine u.fresh b fun z => hb ?_
        by_cases c : b = a
        · subst c
          rw [upd_same] at z
          cases z
        · rw [upd_ne c] at z
          exact z
  · cases hk
end
section
omit [Cl] [Tt]
variable {X : Cx}
theorem pe_lockA {e : Expr} {t : TE} (h : PE X e t) (g : PE X e (tLockE t)) : PE X e (tLockA t) := ⟨fun pins s σ H Q I q => q.elim (g.run pins s σ H Q I) (h.run pins s σ H Q I)⟩
end
end Tr
set_option maxRecDepth 100000
set_option maxHeartbeats 4000000
/-! Trees: statements. -/
namespace Tr
open PySem PySem.Spec PyProof.Rows L2 Tm
variable [Cl] [Tt]
/-- what is wanted of the heap all along; Z: what may be changed -/
structure BOk (d : Option Addr) (B : Hp → Hp → Prop) (Z : Addr → Prop) : Prop where
  up : ∀ F H F' H', B F H → Wd d F H → Up d F H F' H' → B F' H'
  put : ∀ F H p o', B F H → Wd d F H → Z p → F p = none → d ≠ some p → H p ≠ none → B F (upd H p o')
  frz : ∀ F H p o, B F H → Wd d F H → Z p → F p = none → H p = some o → d ≠ some p → B (upd F p o) H
  new : ∀ F H p, B F H → Wd d F H → H p = none → Z p
structure SS (d : Option Addr) (pn : Option Addr) (B : Hp → Hp → Prop) (Z : Addr → Prop) (F H : Hp) (σ' : Sg) (σ : L2.St) : Prop where
  b : B F H
  st : Sts d F H σ' σ
  oz : ∀ (i : Nat) (t : T) (p : Addr), σ'[i]? = some (Sl.own t) → σ[i]? = some (some (V.ref p)) → Z p
  pin : ∀ a, pn = some a → σ[0]? = some (some (V.ref a))
inductive Fl where
  | nx (σ : Sg) | rt (t : T) | bk (σ : Sg) | ct (σ : Sg)
  /-- a thing of one's own is handed back -/
  | ro (t : T)
abbrev MS := Sg → (Fl → Bool) → Bool
structure EOk (d pn : Option Addr) (B : Hp → Hp → Prop) (Z : Addr → Prop) (D : Ends) (k : Fl → Bool) : Prop where
  nx : ∀ F H σ σ', SS d pn B Z F H σ' σ → k (.nx σ') = true → D.nx σ H
  rt : ∀ F H v t, B F H → Wd d F H → RT F v t → k (.rt t) = true → D.rt v H
  bk : ∀ F H σ σ', SS d pn B Z F H σ' σ → k (.bk σ') = true → D.bk σ H
  ct : ∀ F H σ σ', SS d pn B Z F H σ' σ → k (.ct σ') = true → D.ct σ H
  ro : ∀ F H p t, B F H → Wd d F H → OwnAt F H p t → F p = none → d ≠ some p → Z p → k (.ro t) = true → D.rt (.ref p) H
def SSp (d : Option Addr) (pz : Bool) (pre : Option Nat) (t : TS) (m : MS) : Prop := ∀ pn, (pz = false → pn = none) → ∀ B Z, BOk d B Z → ∀ F H σ σ', SS d pn B Z F H σ' σ → Lkd pre H σ' σ → ∀ k : Fl → Bool, m σ' k = true → ∀ D, EOk d pn B Z D k → t D σ H
abbrev SSt (d : Option Addr) (pz : Bool) (t : TS) (m : MS) : Prop := SSp d pz none t m
theorem noLk {H : Hp} {σ' : Sg} {σ : L2.St} : Lkd none H σ' σ := fun _ z => nomatch z
section
variable {d pn : Option Addr} {pz : Bool} {pre : Option Nat} {ta tb tc te tv : TE} {ma mb mc me mv : ME} {t u : TS} {m n : MS} {B : Hp → Hp → Prop} {Z : Addr → Prop} {F H F' H' : Hp} {σ τ : L2.St} {σ' τ' : Sg}
theorem SS.up (bo : BOk d B Z) (s : SS d pn B Z F H σ' σ) (u : Up d F H F' H') : SS d pn B Z F' H' σ' σ := ⟨bo.up _ _ _ _ s.b s.st.wd u, s.st.up u, s.oz, s.pin⟩
theorem SS.near (s : SS d pn B Z F H σ' σ) {is : List Nat} (n : Near d F H τ' τ σ' σ is) (p : ∀ a, pn = some a → τ[0]? = some (some (V.ref a))) : SS d pn B Z F H τ' τ :=
  ⟨s.b, n.st, fun i t p a b => let ⟨x, y⟩ := n.own i t p a b; s.oz i t p x y, p⟩
def mNext : MS := fun σ k => k (.nx σ)
theorem z_next : SSt d pz tNext mNext := fun pn hp B Z bo F H σ σ' s _ k hk D e => e.nx F H σ σ' s hk
theorem z_never {m : MS} : SSt d pz tNever (fun _ _ => false) := fun pn hp B Z bo F H σ σ' s _ k hk D e => by cases hk
theorem z_brk : SSt d pz tBreak (fun σ k => k (.bk σ)) := fun pn hp B Z bo F H σ σ' s _ k hk D e => e.bk F H σ σ' s hk
theorem z_ct : SSt d pz tCont (fun σ k => k (.ct σ)) := fun pn hp B Z bo F H σ σ' s _ k hk D e => e.ct F H σ σ' s hk
def mSeq (m n : MS) : MS := fun σ k => m σ fun r => match r with
  | .nx τ => n τ k
  | .rt t => k (.rt t)
  | .bk τ => k (.bk τ)
  | .ct τ => k (.ct τ)
  | .ro t => k (.ro t)
theorem z_seq (h : SSt d pz t m) (g : SSt d pz u n) : SSt d pz (tSeq t u) (mSeq m n) := by
  intro pn hp B Z bo F H σ σ' s _ k hk D e
  refine h pn hp B Z bo F H σ σ' s noLk _ hk _ ⟨fun F1 H1 τ τ' s1 h1 => g pn hp B Z bo F1 H1 τ τ' s1 noLk k h1 D e, fun F1 H1 v t b w r h1 => e.rt F1 H1 v t b w r h1, fun F1 H1 τ τ' s1 h1 => e.bk F1 H1 τ τ' s1 h1, fun F1 H1 τ τ' s1 h1 => e.ct F1 H1 τ τ' s1 h1, e.ro⟩
/-- not the pinned slot -/
theorem pin_of {is : List Nat} (s : SS d pn B Z F H σ' σ) (hz : pz = false ∨ 0 ∉ is) (hp : pz = false → pn = none) (n : Near d F H τ' τ σ' σ is) : ∀ a, pn = some a → τ[0]? = some (some (V.ref a)) := by
  intro a ha
  rcases hz with z | z
  · rw [hp z] at ha
    cases ha
  · have h1 := n.wp is fun _ h => h
    have h2 : (wipe τ is)[0]? = (wipe σ is)[0]? := by rw [h1]
    rw [wipe_get, wipe_get, if_neg z, if_neg z] at h2
    rw [h2]
    exact s.pin a ha
def mAsg (m : ME) (g : MG) : MS := fun σ k => m σ fun x => g x σ fun τ => k (.nx τ)
theorem z_asg {g : TG} {mg : MG} {is : List Nat} (h : SE d te me) (hg : SG d g mg is) (hz : pz = false ∨ 0 ∉ is) : SSt d pz (tAsg te g) (mAsg me mg) := by
  intro pn hp B Z bo F H σ σ' s _ k hk D e
  refine h F H σ σ' s.st _ hk _ fun v x F1 H1 u1 r1 h1 => ?_
  have s1 := s.up bo u1
  refine hg F1 H1 σ σ' v x s1.st r1 _ h1 _ fun τ τ' n h2 => ?_
  exact e.nx F1 H1 τ τ' (s1.near n (pin_of s1 hz hp n)) h2
/-- a new thing of one's own -/
def mAsgO (m : ME) (i : Nat) : MS := fun σ k => m σ fun x => k (.nx (σ.set i (.own x)))
theorem get_set {α : Type} {l : List α} {i j : Nat} {x y : α} (h : (l.set i x)[j]? = some y) : (i = j ∧ x = y) ∨ (i ≠ j ∧ l[j]? = some y) := by
  by_cases c : i = j
  · subst c
    rw [List.getElem?_set, if_pos rfl] at h
    split at h
    · exact .inl ⟨rfl, Option.some.inj h⟩
    · cases h
  · rw [List.getElem?_set_ne c] at h
    exact .inr ⟨c, h⟩
theorem sts_own {F H : Hp} {i : Nat} {p : Addr} {x : T} (st : Sts d F H σ' σ) (o : OwnAt F H p x) (nf : F p = none) (c : d ≠ some p) (no : ∀ (j : Nat) (t : T) (q : Addr), j ≠ i → σ'[j]? = some (Sl.own t) → σ[j]? = some (some (V.ref q)) → q ≠ p) :
    Sts d F H (σ'.set i (.own x)) (σ.set i (some (.ref p))) := by
  refine ⟨st.wd, pr_set i st.sl (.own o nf c), ?_⟩
  intro a b q r t u ne h1 h2 h3 h4
  rcases get_set h1 with ⟨ea, _⟩ | ⟨na, g1⟩
  · rcases get_set h3 with ⟨_, e3⟩ | ⟨n3, _⟩
    · cases e3
      rcases get_set h2 with ⟨eb, _⟩ | ⟨nb, g2⟩
      · exact absurd (ea.symm.trans eb) ne
      · rcases get_set h4 with ⟨eb, _⟩ | ⟨_, g4⟩
        · exact absurd eb nb
        · exact (no b u r (Ne.symm nb) g2 g4).symm
    · exact absurd ea n3
  · rcases get_set h3 with ⟨ea, _⟩ | ⟨_, g3⟩
    · exact absurd ea na
    · rcases get_set h2 with ⟨eb, _⟩ | ⟨nb, g2⟩
      · rcases get_set h4 with ⟨_, e4⟩ | ⟨n4, _⟩
        · cases e4
          exact no a t q (Ne.symm na) g1 g3
        · exact absurd eb n4
      · rcases get_set h4 with ⟨eb, _⟩ | ⟨_, g4⟩
        · exact absurd eb nb
        · exact st.dj a b q r t u ne g1 g2 g3 g4
theorem oz_own {i : Nat} {p : Addr} {x : T} (oz : ∀ (i : Nat) (t : T) (p : Addr), σ'[i]? = some (Sl.own t) → σ[i]? = some (some (V.ref p)) → Z p) (zp : Z p) :
    ∀ (j : Nat) (t : T) (q : Addr), (σ'.set i (Sl.own x))[j]? = some (Sl.own t) → (σ.set i (some (V.ref p)))[j]? = some (some (V.ref q)) → Z q := by
  intro j t q h1 h2
  rcases get_set h2 with ⟨_, e⟩ | ⟨nj, g2⟩
  · cases e
    exact zp
  · rcases get_set h1 with ⟨ej, _⟩ | ⟨_, g1⟩
    · exact absurd ej nj
    · exact oz j t q g1 g2
theorem pin_set {i : Nat} {x : Option V} (s : SS d pn B Z F H σ' σ) (hz : pz = false ∨ i ≠ 0) (hp : pz = false → pn = none) : ∀ a, pn = some a → (σ.set i x)[0]? = some (some (V.ref a)) := by
  intro a ha
  rcases hz with z | z
  · rw [hp z] at ha
    cases ha
  · rw [List.getElem?_set_ne z]
    exact s.pin a ha
theorem z_asgO {i : Nat} (h : SO d te me) (hz : pz = false ∨ i ≠ 0) : SSt d pz (tAsg te (gName i)) (mAsgO me i) := by
  intro pn hp B Z bo F H σ σ' s _ k hk D e
  refine h F H σ σ' s.st _ hk _ fun p x F1 H1 u1 n1 n2 o h1 => ?_
  have s1 := s.up bo u1
  have no := noOwn_new s.st n1
  have c := tape_nn s.st.wd n1
  exact e.nx F1 H1 _ _ ⟨s1.b, sts_own s1.st o n2 c fun j t q _ a b => no j t q a b, oz_own s1.oz (bo.new F H p s.b s.st.wd n1), pin_set s1 hz hp⟩ h1
def mDrop (m : ME) : MS := fun σ k => m σ fun _ => k (.nx σ)
theorem z_drop (h : SE d te me) : SSt d pz (tDrop te) (mDrop me) := by
  intro pn hp B Z bo F H σ σ' s _ k hk D e
  exact h F H σ σ' s.st _ hk _ fun v x F1 H1 u1 r1 h1 => e.nx F1 H1 σ σ' (s.up bo u1) h1
def mRet (m : ME) : MS := fun σ k => m σ fun x => k (.rt x)
theorem z_ret (h : SE d te me) : SSt d pz (tRet te) (mRet me) := by
  intro pn hp B Z bo F H σ σ' s _ k hk D e
  refine h F H σ σ' s.st _ hk _ fun v x F1 H1 u1 r1 h1 => ?_
  have s1 := s.up bo u1
  exact e.rt F1 H1 v x s1.b s1.st.wd r1 h1
theorem z_retN : SSt d pz tRetN (fun _ k => k (.rt .non)) := fun pn hp B Z bo F H σ σ' s _ k hk D e => e.rt F H .non .non s.b s.st.wd .non hk
def mIfS (c : MT) (m n : MS) : MS := fun σ k => c σ fun b => if b then m σ k else n σ k
theorem z_if {c : TT} {mc : MT} (hc : ST d c mc) (h : SSt d pz t m) (g : SSt d pz u n) : SSt d pz (tIfS c t u) (mIfS mc m n) := by
  intro pn hp B Z bo F H σ σ' s _ k hk D e
  refine hc F H σ σ' s.st _ hk _ fun b F1 H1 u1 h1 => ?_
  have s1 := s.up bo u1
  cases b with
  | true => exact iteT (h pn hp B Z bo F1 H1 σ σ' s1 noLk k h1 D e)
  | false => exact iteF (g pn hp B Z bo F1 H1 σ σ' s1 noLk k h1 D e)
/-! what is one's own, handed back -/
def mRetO (i : Nat) : MS := fun σ k => match σ[i]? with
  | some (.own t) => k (.ro t)
  | _ => false
theorem z_retO {i : Nat} : SSt d pz (tRet (tVar i)) (mRetO i) := by
  intro pn hp B Z bo F H σ σ' s _ k hk D e
  unfold mRetO at hk
  split at hk
  · rename_i t ei
    obtain ⟨p, ep, o, nf, c⟩ := s.st.ownAt ei
    exact ⟨_, ep, e.ro F H p t s.b s.st.wd o nf c (s.oz i t p ei ep) hk⟩
  · cases hk
def mRetN' (m : ME) : MS := fun σ k => m σ fun x => k (.ro x)
theorem z_retN' (h : SO d te me) : SSt d pz (tRet te) (mRetN' me) := by
  intro pn hp B Z bo F H σ σ' s _ k hk D e
  refine h F H σ σ' s.st _ hk _ fun p x F1 H1 u1 n1 n2 o h1 => ?_
  have s1 := s.up bo u1
  exact e.ro F1 H1 p x s1.b s1.st.wd o n2 (tape_nn s.st.wd n1) (bo.new F H p s.b s.st.wd n1) h1
/-! a dict, a list of one's own, changed -/
theorem sts_put {F H : Hp} {i : Nat} {p : Addr} {x y : T} {o : HO} (st : Sts d F H σ' σ) (ei : σ'[i]? = some (Sl.own x)) (ep : σ[i]? = some (some (V.ref p))) (nf : F p = none) (c : d ≠ some p) (oy : OwnAt F (upd H p o) p y) :
    Sts d F (upd H p o) (σ'.set i (.own y)) σ := by
  have w : Wd d F (upd H p o) := by
    obtain ⟨p0, ep0, ow0, _, _⟩ := st.ownAt ei
    rw [ep] at ep0
    cases ep0
    obtain ⟨o0, e0, c0⟩ := ow0.chg
    refine ⟨st.wd.dt, fun a z e => ?_, fun z hz => ?_, tabs_put st.wd.tabs e0 c0, st.wd.nt⟩
    · have : a ≠ p := fun q => by rw [q, nf] at e; cases e
      rcases st.wd.sub a z e with q | ⟨ob, kvs, ee, q⟩
      · exact .is (by rw [upd_ne this]; exact q)
      · exact .lock ob kvs ee (by rw [upd_ne this]; exact q)
    · obtain ⟨⟨D, M, hd, tp⟩, t2⟩ := st.wd.tape z hz
      have : z ≠ p := fun q => c (by rw [← q]; exact hz)
      exact ⟨⟨D, M, by rw [upd_ne this]; exact hd, tp⟩, t2⟩
  have li : i < σ.length := (List.getElem?_eq_some_iff.mp ep).1
  have es : σ.set i (some (V.ref p)) = σ := by
    refine List.ext_getElem? fun j => ?_
    rw [List.getElem?_set]
    by_cases cc : i = j
    · subst cc
      rw [if_pos rfl, if_pos li, ep]
    · rw [if_neg cc]
  have base : Sts d F (upd H p o) (σ'.set i .un) σ := by
    have s1 : Sts d F H (σ'.set i .un) (σ.set i (some (V.ref p))) := ⟨st.wd, pr_set i st.sl (.un _), dj_set st.dj fun _ z => nomatch z⟩
    rw [es] at s1
    refine s1.put w fun j t q a b => ?_
    rcases get_set a with ⟨_, e⟩ | ⟨nj, g⟩
    · cases e
    · exact st.dj j i q p t x (Ne.symm nj) g ei b ep
  have s2 := sts_own (i := i) base oy nf c fun j t q nj a b => by
    rcases get_set a with ⟨_, e⟩ | ⟨_, g⟩
    · cases e
    · exact st.dj j i q p t x nj g ei b ep
  rw [es, List.set_set] at s2
  exact s2
theorem ss_put {i : Nat} {p : Addr} {x y : T} {o : HO} (bo : BOk d B Z) (s : SS d pn B Z F H σ' σ) (ei : σ'[i]? = some (Sl.own x)) (ep : σ[i]? = some (some (V.ref p))) (oy : OwnAt F (upd H p o) p y) (nf : F p = none) (c : d ≠ some p) (hp : H p ≠ none) :
    SS d pn B Z F (upd H p o) (σ'.set i (.own y)) σ :=
  ⟨bo.put F H p o s.b s.st.wd (s.oz i x p ei ep) nf c hp, sts_put s.st ei ep nf c oy, fun j t q a b => by
    rcases get_set a with ⟨ej, _⟩ | ⟨_, g⟩
    · subst ej
      exact s.oz i x q ei b
    · exact s.oz j t q g b, s.pin⟩
def mDPut (i : Nat) (mv mk : ME) : MS := fun σ k => mv σ fun v => match σ[i]? with
  | some (.own (.dic kts)) => mk σ fun y => match keyT y with
    | some j => decide (kts.length < 16777216) && k (.nx (σ.set i (.own (.dic (putT kts j v)))))
    | none => false
  | _ => false
theorem z_dput {i : Nat} (hv : SE d tv mv) (hk : SE d tb mb) : SSt d pz (sDPut (tVar i) tb tv) (mDPut i mv mb) := by
  intro pn hp B Z bo F H σ σ' s _ k hkk D e
  refine hv F H σ σ' s.st _ hkk _ fun v x F1 H1 u1 r1 h1 => ?_
  have s1 := s.up bo u1
  split at h1
  · rename_i kts ei
    obtain ⟨p, ep, _, _, _⟩ := s1.st.ownAt ei
    refine ⟨_, ep, hk F1 H1 σ σ' s1.st _ h1 _ fun w y F2 H2 u2 r2 h2 => ?_⟩
    have s2 := s1.up bo u2
    split at h2
    · rename_i j ej
      rw [Bool.and_eq_true, decide_eq_true_eq] at h2
      obtain ⟨p', ep', o, nf, c⟩ := s2.st.ownAt ei
      rw [ep] at ep'
      cases ep'
      obtain ⟨kvs, hh, rr⟩ := o
      obtain rfl := keyT_rt r2 ej
      refine ⟨p, _, rfl, .inl ⟨kvs, j, hh, rfl, by rw [rr.len, sizeLine_eq]; exact h2.1, rfl⟩, ?_⟩
      exact e.nx F2 _ σ _ (ss_put bo s2 ei ep (show OwnAt F2 (upd H2 p _) p (.dic (putT kts j x)) from ⟨_, upd_same, putT_rt (r1.mono u2.f) rr⟩) nf c (by rw [hh]; exact fun z => nomatch z)) h2.2
    · cases h2
  · cases h1
/-- xs.append(e) -/
def mAppend (i : Nat) (m : ME) : MS := fun σ k => match σ[i]? with
  | some (.own (.lst ts)) => m σ fun x => decide (ts.length < 16777216) && k (.nx (σ.set i (.own (.lst (ts ++ [x])))))
  | _ => false
theorem z_append {i : Nat} (h : SE d te me) : SSt d pz (tDrop (tBM Cl.K "list" rAppend (tVar i) (tCons te tNil))) (mAppend i me) := by
  intro pn hp B Z bo F H σ σ' s _ k hk D e
  unfold mAppend at hk
  split at hk
  · rename_i ts ei
    obtain ⟨p, ep, o0, _, _⟩ := s.st.ownAt ei
    obtain ⟨vs0, hh0, _⟩ := o0
    refine ⟨_, ep, .inl ⟨rfl, _, .inl (.inl hh0)⟩, ?_⟩
    refine h F H σ σ' s.st _ hk _ fun v x F1 H1 u1 r1 h1 => ?_
    have s1 := s.up bo u1
    rw [Bool.and_eq_true, decide_eq_true_eq] at h1
    obtain ⟨p', ep', o, nf, c⟩ := s1.st.ownAt ei
    rw [ep] at ep'
    cases ep'
    obtain ⟨vs, hh, rr⟩ := o
    refine ⟨p, vs, v, rfl, rfl, hh, by rw [rr.len, sizeLine_eq]; exact h1.1, ?_⟩
    exact e.nx F1 _ σ _ (ss_put bo s1 ei ep (show OwnAt F1 (upd H1 p _) p (.lst (ts ++ [x])) from ⟨_, upd_same, rr.snoc r1⟩) nf c (by rw [hh]; exact fun z => nomatch z)) h1.2
  · cases hk
/-! what is one's own, let go -/
def frz (i : Nat) (σ : Sg) : Sg := match σ[i]? with
  | some (.own t) => σ.set i (.val t)
  | _ => σ
theorem freezeO_eq {F H : Hp} {p : Addr} {o : HO} (h : H p = some o) : freezeO F H p = upd F p o := by
  unfold freezeO
  rw [h]
theorem sts_frz {F H : Hp} {i : Nat} {p : Addr} {x : T} {o : HO} (st : Sts d F H σ' σ) (ei : σ'[i]? = some (Sl.own x)) (ep : σ[i]? = some (some (V.ref p))) (hh : H p = some o) : Sts d (upd F p o) H (σ'.set i (.val x)) σ := by
  obtain ⟨p', ep', ow, nf, c⟩ := st.ownAt ei
  rw [ep] at ep'
  cases ep'
  have r := own_rt nf ow
  have w := freeze_wd st.wd nf c fun _ e => ow.nt e
  rw [freezeO_eq hh] at r w
  have li : i < σ.length := (List.getElem?_eq_some_iff.mp ep).1
  have es : σ.set i (some (V.ref p)) = σ := by
    refine List.ext_getElem? fun j => ?_
    rw [List.getElem?_set]
    by_cases cc : i = j
    · subst cc
      rw [if_pos rfl, if_pos li, ep]
    · rw [if_neg cc]
  have sl : Paired (SlOk d (upd F p o) H) (σ'.set i (.val x)) (σ.set i (some (V.ref p))) := by
    have q : Paired (fun (a : Sl) (b : Option V) => SlOk d (upd F p o) H a b) (σ'.set i (.val x)) (σ.set i (some (V.ref p))) := by
      have un : Paired (SlOk d F H) (σ'.set i .un) (σ.set i (some (V.ref p))) := pr_set i st.sl (.un _)
      have un2 : Paired (SlOk d (upd F p o) H) (σ'.set i .un) (σ.set i (some (V.ref p))) := pr_mono_at un fun j a b ha hb ok => by
        cases ok with
        | un => exact .un _
        | val r => exact .val (r.mono (le_new nf))
        | own ow2 nf2 c2 =>
          rename_i q t
          rcases get_set ha with ⟨_, e⟩ | ⟨nj, g⟩
          · cases e
          · rw [es] at hb
            have ne : q ≠ p := st.dj j i q p t x (Ne.symm nj) g ei hb ep
            exact .own (ow2.mono (le_new nf) rfl) (by rw [upd_ne ne]; exact nf2) c2
      have := pr_set i un2 (x := Sl.val x) (y := some (V.ref p)) (.val r)
      rw [List.set_set, List.set_set] at this
      exact this
    exact q
  rw [es] at sl
  refine ⟨w, sl, ?_⟩
  have := dj_set (i := i) (s := .val x) (x := some (V.ref p)) st.dj (fun _ z => nomatch z)
  rw [es] at this
  exact this
theorem ss_frz (bo : BOk d B Z) (s : SS d pn B Z F H σ' σ) (i : Nat) : ∃ F', SS d pn B Z F' H (frz i σ') σ := by
  unfold frz
  split
  · rename_i x ei
    obtain ⟨p, ep, o, nf, c⟩ := s.st.ownAt ei
    obtain ⟨ob, hh⟩ := o.some
    refine ⟨upd F p ob, bo.frz F H p ob s.b s.st.wd (s.oz i x p ei ep) nf hh c, sts_frz s.st ei ep hh, fun j t q a b => ?_, s.pin⟩
    rcases get_set a with ⟨_, e⟩ | ⟨_, g⟩
    · cases e
    · exact s.oz j t q g b
  · exact ⟨F, s⟩
def mFrz (is : List Nat) (m : MS) : MS := fun σ k => m (is.foldl (fun τ i => frz i τ) σ) k
theorem ss_frzs (bo : BOk d B Z) : ∀ (is : List Nat) {F : Hp} {σ' : Sg}, SS d pn B Z F H σ' σ → ∃ F', SS d pn B Z F' H (is.foldl (fun τ i => frz i τ) σ') σ
  | [], F, _, s => ⟨F, s⟩
  | i :: js, F, _, s => by
    obtain ⟨F1, s1⟩ := ss_frz bo s i
    exact ss_frzs bo js s1
theorem z_frz (is : List Nat) (h : SSt d pz t m) : SSt d pz t (mFrz is m) := by
  intro pn hp B Z bo F H σ σ' s _ k hk D e
  obtain ⟨F1, s1⟩ := ss_frzs bo is s
  exact h pn hp B Z bo F1 H σ _ s1 noLk k hk D e
/-! .. for the time of a test -/
theorem st_frz (st : Sts d F H σ' σ) (i : Nat) : ∃ F', Sts d F' H (frz i σ') σ ∧ (∀ a, F a ≠ none → F' a = F a) := by
  unfold frz
  split
  · rename_i x ei
    obtain ⟨p, ep, o, nf, c⟩ := st.ownAt ei
    obtain ⟨ob, hh⟩ := o.some
    exact ⟨upd F p ob, sts_frz st ei ep hh, fun a ha => upd_ne fun z => ha (by rw [z]; exact nf)⟩
  · exact ⟨F, st, fun _ _ => rfl⟩
theorem st_frzs : ∀ (is : List Nat) {F : Hp} {σ' : Sg}, Sts d F H σ' σ → ∃ F', Sts d F' H (is.foldl (fun τ i => frz i τ) σ') σ ∧ (∀ a, F a ≠ none → F' a = F a)
  | [], F, _, s => ⟨F, s, fun _ _ => rfl⟩
  | i :: js, F, _, s => by
    obtain ⟨F1, s1, h1⟩ := st_frz s i
    obtain ⟨F2, s2, h2⟩ := st_frzs js s1
    exact ⟨F2, s2, fun a ha => by rw [h2 a (by rw [h1 a ha]; exact ha), h1 a ha]⟩
theorem up_back {F1 F' H' : Hp} (w : Wd d F H) (h : ∀ a, F a ≠ none → F1 a = F a) (u : Up d F1 H F' H') : Up d F H F H' := by
  have le : Le F F1 := fun a o e => by rw [h a (by rw [e]; exact fun z => nomatch z)]; exact e
  exact ⟨Le.refl F, u.keep, u.there, fun _ _ => rfl, w.dt, fun a o e => u.wd.sub a o (u.f a o (le a o e)), fun x hx => ⟨(u.wd.tape x hx).1, (w.tape x hx).2⟩, u.wd.tabs, w.nt⟩
def mTFrz (is : List Nat) (m : MT) : MT := fun σ k => m (is.foldl (fun τ i => frz i τ) σ) k
theorem t_frz {tt : TT} {mt : MT} (is : List Nat) (h : ST d tt mt) : ST d tt (mTFrz is mt) := by
  intro F H σ σ' st k hk Q q
  obtain ⟨F1, s1, h1⟩ := st_frzs is st
  exact h F1 H σ _ s1 k hk Q fun b F2 H2 u2 h2 => q b F H2 (up_back st.wd h1 u2) h2
/-- .. of an expression that gives a scalar -/
def mEFrz (is : List Nat) (m : ME) : ME := fun σ k => m (is.foldl (fun τ i => frz i τ) σ) fun x => scal x && k x
theorem s_frz (is : List Nat) (h : SE d te me) : SE d te (mEFrz is me) := by
  intro F H σ σ' st k hk Q q
  obtain ⟨F1, s1, h1⟩ := st_frzs is st
  refine h F1 H σ _ s1 _ hk Q fun v x F2 H2 u2 r2 h2 => ?_
  rw [Bool.and_eq_true] at h2
  exact q v x F H2 (up_back st.wd h1 u2) (r2.scal h2.1) h2.2
end
end Tr
set_option maxRecDepth 100000
set_option maxHeartbeats 4000000
/-! Trees: loops, calls, defs. -/
namespace Tr
open PySem PySem.Spec PyProof.Rows L2 Tm
variable [Cl] [Tt]
section
variable {d pn : Option Addr} {pz : Bool} {pre : Option Nat} {ta tb tc te tv : TE} {ma mb mc me mv : ME} {t u : TS} {m n : MS} {B : Hp → Hp → Prop} {Z : Addr → Prop} {F H F' H' : Hp} {σ τ : L2.St} {σ' τ' : Sg}
/-! for -/
def forGo (mg : MG) (mb : MS) : List T → Sg → (Fl → Bool) → Bool
  | [], σ, k => k (.nx σ)
  | t :: ts, σ, k => mg t σ fun σ2 => mb σ2 fun r => match r with
    | .nx σ3 => forGo mg mb ts σ3 k
    | .ct σ3 => forGo mg mb ts σ3 k
    | .bk σ3 => k (.nx σ3)
    | .rt t => k (.rt t)
    | .ro t => k (.ro t)
def mFor (mi : MI) (mg : MG) (mb : MS) : MS := fun σ k => mi σ fun ts => forGo mg mb ts σ k
theorem bok_loop {F1 H1 : Hp} (bo : BOk d B Z) : BOk d (fun F H => B F H ∧ Le F1 F ∧ Lk F1 H1 H) Z where
  up := fun F H F' H' ⟨b, l, k⟩ w u => ⟨bo.up _ _ _ _ b w u, l.trans u.f, fun a ob o f h => by
    have : d ≠ some a := fun z => by
      have := (w.tape a z).2
      rw [l _ _ f] at this
      cases this
    exact u.keep a _ this (nt_frz _ _) (k a ob o f h)⟩
  put := fun F H p o' ⟨b, l, k⟩ w z nf c hp => ⟨bo.put F H p o' b w z nf c hp, l, fun a ob o f h => by
    have : a ≠ p := fun q => by
      have := l _ _ f
      rw [q, nf] at this
      cases this
    rw [upd_ne this]
    exact k a ob o f h⟩
  frz := fun F H p o ⟨b, l, k⟩ w z nf hp c => ⟨bo.frz F H p o b w z nf hp c, l.trans (le_new nf), k⟩
  new := fun F H p ⟨b, _, _⟩ w hp => bo.new F H p b w hp
theorem z_for {wi : TI} {mi : MI} {g : TG} {mg : MG} {is : List Nat} {tb : TS} {mb : MS} (hi : SI d pre wi mi) (hg : SG d g mg is) (hz : pz = false ∨ 0 ∉ is) (hb : SSt d pz tb mb) : SSp d pz pre (tFor wi g tb) (mFor mi mg mb) := by
  intro pn hp B Z bo F H σ σ' s lk k hk D e
  refine hi F H σ σ' s.st lk _ hk _ fun J ts F1 H1 u1 wt h1 => ?_
  obtain ⟨G, Y, wk, hG, hY⟩ := wt.ex
  have s1 := s.up bo u1
  have bo2 := bok_loop (F1 := F1) (H1 := H1) bo
  refine for_it wk (fun i σ H => ∃ F σ', SS d pn (fun F H => B F H ∧ Le F1 F ∧ Lk F1 H1 H) Z F H σ' σ ∧ forGo mg mb (ts.drop i) σ' k = true)
    ⟨F1, σ', ⟨⟨s1.b, Le.refl _, fun _ _ _ _ h => h⟩, s1.st, s1.oz, s1.pin⟩, by rw [List.drop_zero]; exact h1⟩ (fun i σ Hc _ ⟨Fc, _, sc, _⟩ => hG Fc Hc ⟨sc.b.2.1, sc.st.wd, sc.b.2.2⟩) ?_ ?_
  · rintro i x σc Hc Hn hi2 ⟨Fc, σc', sc, hk2⟩ y
    obtain ⟨Fn, t, et, un, rt⟩ := hY i Fc Hc x Hn ⟨sc.b.2.1, sc.st.wd, sc.b.2.2⟩ y
    have sn := sc.up bo2 un
    have dr : ts.drop i = t :: ts.drop (i + 1) := by
      rw [List.drop_eq_getElem_cons hi2]
      congr 1
      rw [List.getElem?_eq_getElem hi2] at et
      exact Option.some.inj et
    rw [dr] at hk2
    refine hg Fn Hn σc σc' x t sn.st rt _ hk2 _ fun τ τ' nr h2 => ?_
    have sm := sn.near nr (pin_of sn hz hp nr)
    refine hb pn hp _ Z bo2 Fn Hn τ τ' sm noLk _ h2 _ ⟨fun F3 H3 ρ ρ' s3 h3 => ⟨F3, ρ', s3, h3⟩, fun F3 H3 v t3 b w r h3 => e.rt F3 H3 v t3 b.1 w r h3, fun F3 H3 ρ ρ' s3 h3 => e.nx F3 H3 ρ ρ' ⟨s3.b.1, s3.st, s3.oz, s3.pin⟩ h3, fun F3 H3 ρ ρ' s3 h3 => ⟨F3, ρ', s3, h3⟩, fun F3 H3 p t b w o n c z h3 => e.ro F3 H3 p t b.1 w o n c z h3⟩
  · rintro σc Hc ⟨Fc, σc', sc, hk2⟩
    rw [List.drop_length] at hk2
    exact e.nx Fc Hc σc σc' ⟨sc.b.1, sc.st, sc.oz, sc.pin⟩ hk2
/-! locked -/
def tLockS (t : TS) : TS := fun D σ H => tLock t D σ H ∨ t D σ H
def mLockS (i : Nat) (m : MS) : MS := fun σ k => match σ[i]? with
  | some (.val (.dic _)) => m σ k
  | _ => false
theorem upd_comm {H : Hp} {a b : Addr} {o u : HO} (h : a ≠ b) : upd (upd H a o) b u = upd (upd H b u) a o := by
  funext c
  unfold upd
  by_cases ca : c = a
  · have cb : ¬ c = b := fun z => h (ca.symm.trans z)
    simp only [if_neg cb, if_pos ca]
  · by_cases cb : c = b
    · simp only [if_pos cb, if_neg ca]
    · simp only [if_neg cb, if_neg ca]
theorem up_unlock {a : Addr} {ob : Obj} {kvs : List (Key × V)} (w : Wd d F H) (f : F a = some (.dK kvs)) (ha : H a = some (.frz ob (.dK kvs))) (u : Up d F H F' H') : Up d F (upd H a (.dK kvs)) F' (upd H' a (.dK kvs)) := by
  refine ⟨u.f, fun b o n nt eb => ?_, fun b hb => ?_, fun b hb => ?_, wd_unlock u.wd (u.f _ _ f)⟩
  · by_cases c : b = a
    · subst c
      rw [upd_same] at eb ⊢
      exact eb
    · rw [upd_ne c] at eb ⊢
      exact u.keep b o n nt eb
  · by_cases c : b = a
    · rw [c, upd_same]
      exact fun z => nomatch z
    · rw [upd_ne c] at hb ⊢
      exact u.there b hb
  · refine u.fresh b fun z => hb ?_
    by_cases c : b = a
    · subst c
      rw [ha] at z
      cases z
    · rw [upd_ne c]
      exact z
theorem bok_lock {a : Addr} {ob : Obj} {kvs : List (Key × V)} (bo : BOk d B Z) : BOk d (fun F H => B F (upd H a (.dK kvs)) ∧ H a = some (.frz ob (.dK kvs)) ∧ F a = some (.dK kvs)) (fun p => Z p ∧ p ≠ a) where
  up := fun F H F' H' ⟨b, ha, f⟩ w u => ⟨bo.up _ _ _ _ b (wd_unlock w f) (up_unlock w f ha u), u.keep a _ (fun z => by
    have := (w.tape a z).2
    rw [f] at this
    cases this) (nt_frz _ _) ha, u.f _ _ f⟩
  put := fun F H p o' ⟨b, ha, f⟩ w z nf c hp => ⟨by
    rw [upd_comm z.2]
    exact bo.put F _ p o' b (wd_unlock w f) z.1 nf c (by rw [upd_ne z.2]; exact hp), by rw [upd_ne (Ne.symm z.2)]; exact ha, f⟩
  frz := fun F H p o ⟨b, ha, f⟩ w z nf hp c => ⟨bo.frz F _ p o b (wd_unlock w f) z.1 nf (by rw [upd_ne z.2]; exact hp) c, ha, by rw [upd_ne (Ne.symm z.2)]; exact f⟩
  new := fun F H p ⟨b, ha, f⟩ w hp => by
    have ne : p ≠ a := fun z => by
      rw [z, ha] at hp
      cases hp
    exact ⟨bo.new F _ p b (wd_unlock w f) (by rw [upd_ne ne]; exact hp), ne⟩
theorem upd_self {H : Hp} {a : Addr} {o : HO} (h : H a = some o) : upd H a o = H := by
  funext c
  unfold upd
  by_cases e : c = a
  · rw [if_pos e, e, h]
  · rw [if_neg e]
theorem z_lock {i : Nat} (h : SSp d pz (some i) t m) : SSt d pz (tLockS t) (mLockS i m) := by
  intro pn hp B Z bo F H σ σ' s _ k hk D e
  unfold mLockS at hk
  split at hk
  · rename_i kts ei
    obtain ⟨a, kvs, e1, f, r⟩ := dic_at s.st ei
    cases s.st.wd.sub a _ f with
    | lock ob kvs' c hl => exact .inr (h pn hp B Z bo F H σ σ' s (fun j hj => by cases hj; exact ⟨a, ob, kvs, e1, hl⟩) k hk D e)
    | is ha =>
      refine .inl ⟨a, .dK kvs, ha, trivial, fun od => ?_⟩
      have w2 := wd_lock (ob := od) s.st.wd f
      have st2 : Sts d F (upd H a (.frz od (.dK kvs))) σ' σ := s.st.put w2 (noOwn_f s.st f)
      have bo2 := bok_lock (a := a) (ob := od) (kvs := kvs) bo
      have s2 : SS d pn (fun F H => B F (upd H a (.dK kvs)) ∧ H a = some (.frz od (.dK kvs)) ∧ F a = some (.dK kvs)) (fun p => Z p ∧ p ≠ a) F (upd H a (.frz od (.dK kvs))) σ' σ :=
        ⟨⟨by rw [upd_upd, upd_self ha]; exact s.b, upd_same, f⟩, st2, fun j t p x y => ⟨s.oz j t p x y, noOwn_f s.st f j t p x y⟩, s.pin⟩
      have back : ∀ {F3 H3 ρ ρ'}, SS d pn (fun F H => B F (upd H a (.dK kvs)) ∧ H a = some (.frz od (.dK kvs)) ∧ F a = some (.dK kvs)) (fun p => Z p ∧ p ≠ a) F3 H3 ρ' ρ → SS d pn B Z F3 (upd H3 a (.dK kvs)) ρ' ρ := fun {F3 H3 ρ ρ'} s3 =>
        ⟨s3.b.1, s3.st.put (wd_unlock s3.st.wd s3.b.2.2) (noOwn_f s3.st s3.b.2.2), fun j t p x y => (s3.oz j t p x y).1, s3.pin⟩
      refine h pn hp _ _ bo2 F _ σ σ' s2 (fun j hj => by cases hj; exact ⟨a, od, kvs, e1, upd_same⟩) k hk _ ⟨fun F3 H3 ρ ρ' s3 h3 => ⟨s3.b.2.1, e.nx _ _ _ _ (back s3) h3⟩, fun F3 H3 v t3 b w r h3 => ⟨b.2.1, e.rt _ _ v t3 b.1 (wd_unlock w b.2.2) r h3⟩,
        fun F3 H3 ρ ρ' s3 h3 => ⟨s3.b.2.1, e.bk _ _ _ _ (back s3) h3⟩, fun F3 H3 ρ ρ' s3 h3 => ⟨s3.b.2.1, e.ct _ _ _ _ (back s3) h3⟩,
        fun F3 H3 p t b w o n c z h3 => ⟨b.2.1, e.ro F3 _ p t b.1 (wd_unlock w b.2.2) (o.mono (Le.refl _) (upd_ne z.2)) n c z.1 h3⟩⟩
  · cases hk
/-! while -/
def whGo (mc : MT) (mb : MS) : Nat → Sg → (Fl → Bool) → Bool
  | 0, _, _ => false
  | n + 1, σ, k => mc σ fun b => if b then mb σ (fun r => match r with
      | .nx σ3 => whGo mc mb n σ3 k
      | .ct σ3 => whGo mc mb n σ3 k
      | .bk σ3 => k (.nx σ3)
      | .rt t => k (.rt t)
      | .ro t => k (.ro t))
    else k (.nx σ)
def mWhile (n : Nat) (mc : MT) (mb : MS) : MS := fun σ k => whGo mc mb n σ k
theorem z_while {c : TT} {mc : MT} {tb : TS} {mb : MS} (n : Nat) (hc : ST d c mc) (hb : SSt d pz tb mb) : SSt d pz (tWhile c tb) (mWhile n mc mb) := by
  intro pn hp B Z bo F H σ σ' s lk k hk D e
  refine ⟨fun m σ H => ∃ F σ', SS d pn B Z F H σ' σ ∧ whGo mc mb m σ' k = true, ⟨n, F, σ', s, hk⟩, ?_⟩
  rintro m σ1 H1 ⟨F1, σ1', s1, h1⟩
  cases m with
  | zero => cases h1
  | succ m =>
    refine hc F1 H1 σ1 σ1' s1.st _ h1 _ fun b F2 H2 u2 h2 => ?_
    have s2 := s1.up bo u2
    cases b with
    | false => exact iteF (e.nx F2 H2 σ1 σ1' s2 h2)
    | true =>
      refine iteT ⟨fun σ H => ∃ F σ', SS d pn B Z F H σ' σ ∧ whGo mc mb m σ' k = true, fun σ' H' q => ⟨m, Nat.lt_succ_self m, q⟩, ?_⟩
      exact hb pn hp B Z bo F2 H2 σ1 σ1' s2 noLk _ h2 _ ⟨fun F3 H3 ρ ρ' s3 h3 => ⟨F3, ρ', s3, h3⟩, fun F3 H3 v t3 b w r h3 => e.rt F3 H3 v t3 b w r h3, fun F3 H3 ρ ρ' s3 h3 => e.nx F3 H3 ρ ρ' s3 h3, fun F3 H3 ρ ρ' s3 h3 => ⟨F3, ρ', s3, h3⟩, e.ro⟩
/-! a, b = x, y -/
def mPar (i j : Nat) (m : MA) : MS := fun σ k => m σ fun xs => match xs with
  | [x, y] => k (.nx ((σ.set i (.val x)).set j (.val y)))
  | _ => false
theorem z_par {i j : Nat} {t : TA} {m : MA} (h : SA d t m) (hz : pz = false ∨ (i ≠ 0 ∧ j ≠ 0)) : SSt d pz (tPar i j t) (mPar i j m) := by
  intro pn hp B Z bo F H σ σ' s _ k hk D e
  refine h F H σ σ' s.st _ hk _ fun vs xs F1 H1 u1 r1 h1 => ?_
  have s1 := s.up bo u1
  split at h1
  · rename_i x y
    obtain ⟨v, w, rfl, r, q⟩ := rts2 r1
    refine ⟨v, w, rfl, e.nx F1 H1 _ _ ⟨s1.b, (s1.st.setVal i r).setVal j q, fun l t p a b => ?_, fun a ha => ?_⟩ h1⟩
    · obtain ⟨a1, b1⟩ := ownLe_set (s := .val y) (fun _ z => nomatch z) l t p a b
      obtain ⟨a2, b2⟩ := ownLe_set (s := .val x) (fun _ z => nomatch z) l t p a1 b1
      exact s1.oz l t p a2 b2
    · rcases hz with z | ⟨z1, z2⟩
      · rw [hp z] at ha
        cases ha
      · rw [List.getElem?_set_ne z2, List.getElem?_set_ne z1]
        exact s1.pin a ha
  · cases h1
/-! calls -/
/-- what a def does, by its mirror -/
abbrev Fn := List T → (T → Bool) → Bool
omit [Tt] in
def spT (n : Nat) (f : Fn) : Sp := fun vs H Q _ => ∃ (I : Tt) (F : Hp) (ts : List T), Wd I.tp F H ∧ RTs F vs ts ∧ ts.length = n ∧ ∃ k, f ts k = true ∧ ∀ v t F' H', Up I.tp F H F' H' → RT F' v t → k t = true → Q v H'
def mCall (n : Nat) (f : Fn) (ds : List T) (m : MA) : ME := fun σ k => m σ fun xs => decide ((xs ++ ds).length = n) && f (xs ++ ds) k
theorem s_call {n : Nat} {f : Fn} {dvs : List V} {ds : List T} {E : XK} {t : TA} {m : MA} (hd : ∀ F, RTs F dvs ds) (h : SA d t m) : SE d (tCall (spT n f) dvs E t) (mCall n f ds m) := by
  intro F H σ σ' st k hk Q q
  refine h F H σ σ' st _ hk _ fun vs xs F1 H1 u1 r1 h1 => ?_
  rw [Bool.and_eq_true, decide_eq_true_eq] at h1
  have e := st.wd.dt
  subst e
  exact ⟨inferInstance, F1, _, u1.wd, r1.append (hd F1), h1.1, k, h1.2, fun v t F2 H2 u2 r2 h2 => q v t F2 H2 (u1.trans u2 st.wd) r2 h2⟩
omit [Tt] in
theorem spT_len {n : Nat} {f : Fn} {vs : List V} {H : Hp} {Q : VK} {E : XK} (h : spT n f vs H Q E) : vs.length = n := by
  obtain ⟨I, F, ts, _, r, l, _⟩ := h
  rw [r.len, l]
/-- e.m(..) -/
def mMeth (C : Nat) (n : Nat) (f : Fn) (ds : List T) (ma : ME) (m : MA) : ME := fun σ k => ma σ fun x => match x with
  | .ins c _ => decide (c = C) && m σ fun xs => decide ((x :: (xs ++ ds)).length = n) && f (x :: (xs ++ ds)) k
  | _ => false
def flds : List (Str × T) → Str → Option T
  | [], _ => none
  | (g, t) :: r, f => if eqZ g f then some t else flds r f
theorem flds_rt {F : Hp} : ∀ {fts : List (Str × T)} {fs : List (Str × V)} {f : Str}, RTf F fs fts → match flds fts f with
    | some t => ∃ v, fs.lookup f = some v ∧ RT F v t
    | none => fs.lookup f = none
  | [], _, f, r => by
    cases r
    rfl
  | (g, t) :: kts, _, f, r => by
    cases r with
    | cons r1 r2 =>
      unfold flds
      rw [eqZ_eq]
      by_cases c : g = f
      · rw [decide_eq_true c]
        subst c
        exact ⟨_, by simp [List.lookup], r1⟩
      · rw [decide_eq_false c]
        have ih := flds_rt (f := f) r2
        have e : ∀ {v : V} {l : List (Str × V)}, ((g, v) :: l).lookup f = l.lookup f := fun {v l} => by
          rw [List.lookup_cons]
          have : (f == g) = false := beq_eq_false_iff_ne.mpr fun z => c z.symm
          rw [this]
        show match flds kts f with
          | some t => ∃ v, ((g, _) :: _ : List (Str × V)).lookup f = some v ∧ RT F v t
          | none => ((g, _) :: _ : List (Str × V)).lookup f = none
        rw [e]
        exact ih
/-- e.f -/
def mFld (C : Nat) (f : Str) (m : ME) : ME := fun σ k => m σ fun x => match x with
  | .ins c fts => decide (c = C) && match flds fts f with
    | some t => k t
    | none => false
  | _ => false
theorem s_fld {C : Nat} {f : Str} (hc : Cls Cl.K (Cl.ad C)) (hn : NoAttr Cl.K (Cl.ad C) f) (h : SE d te me) : SE d (tFld Cl.K te f) (mFld C f me) := by
  intro F H σ σ' st k hk Q q
  refine h F H σ σ' st _ hk _ fun v x F1 H1 u1 r1 h1 => ?_
  split at h1
  · rename_i c fts
    rw [Bool.and_eq_true, decide_eq_true_eq] at h1
    obtain ⟨rfl, h1⟩ := h1
    cases r1 with
    | ins e r =>
      have g := flds_rt (f := f) r
      split at h1
      · rename_i t et
        rw [et] at g
        obtain ⟨v, hv, rv⟩ := g
        exact ⟨_, _, _, _, v, rfl, rd_ins u1.wd e, hc, hn, hv, q v t F1 H1 u1 rv h1⟩
      · cases h1
  · cases h1
def mProp (C : Nat) (f : Fn) (m : ME) : ME := fun σ k => m σ fun x => match x with
  | .ins c _ => decide (c = C) && f [x] k
  | _ => false
theorem s_prop {C : Nat} {f : Fn} {E : XK} (h : SE d te me) : SE d (tProp (Cl.ad C) (spT 1 f) [] E te) (mProp C f me) := by
  intro F H σ σ' st k hk Q q
  refine h F H σ σ' st _ hk _ fun v x F1 H1 u1 r1 h1 => ?_
  split at h1
  · rename_i c fts
    rw [Bool.and_eq_true, decide_eq_true_eq] at h1
    obtain ⟨rfl, h1⟩ := h1
    have ed := st.wd.dt
    subst ed
    cases r1 with
    | ins e r => exact ⟨_, _, _, rfl, rd_ins u1.wd e, inferInstance, F1, _, u1.wd, .cons (.ins e r) .nil, rfl, k, h1, fun v t F2 H2 u2 r2 h2 => q v t F2 H2 (u1.trans u2 st.wd) r2 h2⟩
  · cases h1
theorem s_meth {C n : Nat} {f : Fn} {dvs : List V} {ds : List T} {E : XK} {t : TA} {m : MA} {mn : Str} (hd : ∀ F, RTs F dvs ds) (hm : ∀ c fts, T.ins c fts = T.ins c fts → True) (h : SE d te me) (ha : SA d t m) :
    SE d (tMeth (Cl.ad C) mn (spT n f) dvs E te t) (fun σ k => me σ fun x => match x with
      | .ins c fts => decide (c = C) && ((flds fts mn).isNone && m σ fun xs => decide ((x :: (xs ++ ds)).length = n) && f (x :: (xs ++ ds)) k)
      | _ => false) := by
  intro F H σ σ' st k hk Q q
  refine h F H σ σ' st _ hk _ fun v x F1 H1 u1 r1 h1 => ?_
  split at h1
  · rename_i c fts
    rw [Bool.and_eq_true, decide_eq_true_eq, Bool.and_eq_true] at h1
    obtain ⟨rfl, h0, h1⟩ := h1
    cases r1 with
    | ins e r =>
      have g := flds_rt (f := mn) r
      cases ef : flds fts mn with
      | some t => rw [ef] at h0; cases h0
      | none =>
        rw [ef] at g
        refine ⟨_, _, _, rfl, rd_ins u1.wd e, g, ha F1 H1 σ σ' (st.up u1) _ h1 _ fun vs xs F2 H2 u2 r2 h2 => ?_⟩
        rw [Bool.and_eq_true, decide_eq_true_eq] at h2
        have ed := st.wd.dt
        subst ed
        exact ⟨inferInstance, F2, _, u2.wd, .cons ((RT.ins e r).mono u2.f) (r2.append (hd F2)), h2.1, k, h2.2, fun v t F3 H3 u3 r3 h3 => q v t F3 H3 ((u1.trans u2 st.wd).trans u3 st.wd) r3 h3⟩
  · cases h1
/-! a def's body -/
def startM (n : Nat) (ts : List T) : Sg := ts.map Sl.val ++ List.replicate (n - ts.length) Sl.un
def fnM (n : Nat) (m : MS) : Fn := fun ts k => m (startM n ts) fun r => match r with
  | .nx _ => k .non
  | .rt t => k t
  | .ro t => k t
  | _ => false
def BB (d : Option Addr) (F0 H0 : Hp) : Hp → Hp → Prop := fun F H => Le F0 F ∧ (∀ a o, d ≠ some a → Nt o → H0 a = some o → H a = some o) ∧ (∀ a, H0 a ≠ none → H a ≠ none) ∧ ∀ a, H0 a ≠ none → F a = F0 a
theorem bok_base {F0 H0 : Hp} (w0 : Wd d F0 H0) : BOk d (BB d F0 H0) (fun p => H0 p = none) where
  up := fun F H F' H' ⟨l, k, th, f⟩ w u => ⟨l.trans u.f, fun a o n nt e => u.keep a o n nt (k a o n nt e), fun a ha => u.there a (th a ha), fun a ha => by
    rw [u.fresh a (th a ha), f a ha]⟩
  put := fun F H p o' ⟨l, k, th, f⟩ w z nf c hp => ⟨l, fun a o n nt e => by
    rw [upd_ne (ne_of_none e z)]
    exact k a o n nt e, fun a ha => there_upd a (th a ha), f⟩
  frz := fun F H p o ⟨l, k, th, f⟩ w z nf hp c => ⟨l.trans (le_new nf), k, th, fun a ha => by
    have : a ≠ p := fun q => ha (by rw [q]; exact z)
    rw [upd_ne this]
    exact f a ha⟩
  new := fun F H p ⟨l, k, th, f⟩ w hp => by
    cases q : H0 p with
    | none => rfl
    | some o => exact absurd hp (th p (by rw [q]; exact fun z => nomatch z))
theorem start_sl {F H : Hp} : ∀ {vs : List V} {ts : List T} (n : Nat), RTs F vs ts → Paired (SlOk d F H) (ts.map Sl.val ++ List.replicate n Sl.un) (vs.map some ++ List.replicate n none)
  | _, [], n, r => by
    cases r
    have : ∀ n : Nat, Paired (SlOk d F H) (List.replicate n Sl.un) (List.replicate n (none : Option V)) := by
      intro n
      induction n with
      | zero => exact .nil
      | succ n ih => exact .cons (.un _) ih
    exact this n
  | _, _ :: _, n, r => by
    cases r with
    | cons a b => exact .cons (.val a) (start_sl n b)
theorem start_own {ts : List T} {n i : Nat} {x : T} (h : (ts.map Sl.val ++ List.replicate n Sl.un)[i]? = some (Sl.own x)) : False := by
  have := List.mem_of_getElem? h
  rcases List.mem_append.mp this with q | q
  · obtain ⟨t, _, e⟩ := List.mem_map.mp q
    cases e
  · cases List.eq_of_mem_replicate q
omit [Tt] in
/-- the body keeps the promise -/
theorem run_fn {N : List Str} {n : Nat} {ts : TS} {ms : MS} (h : ∀ (I : Tt) (d : Option Addr), SSt d false ts ms) {vs : List V} {H : Hp} {Q : VK} {E : XK} (sp : spT n (fnM N.length ms) vs H Q E) : ts { nx := fun _ H' => Q .non H', rt := Q } (L2.start N vs) H := by
  obtain ⟨I, F, xs, w, r, l, k, hf, q⟩ := sp
  generalize hd : I.tp = d at w q
  have up_of : ∀ {F' H'}, BB d F H F' H' → Wd d F' H' → Up d F H F' H' := fun b w' => ⟨b.1, b.2.1, b.2.2.1, b.2.2.2, w'⟩
  refine h I d none (fun _ => rfl) (BB d F H) (fun p => H p = none) (bok_base w) F H _ _ ⟨⟨Le.refl _, fun _ _ _ _ e => e, fun _ e => e, fun _ _ => rfl⟩, ⟨w, ?_, ?_⟩, ?_, fun _ z => nomatch z⟩ noLk _ hf _ ⟨?_, ?_, ?_, ?_, ?_⟩
  · show Paired _ (startM N.length xs) (L2.start N vs)
    unfold startM L2.start
    rw [r.len]
    exact start_sl _ r
  · intro i j p q t u _ h1
    exact (start_own h1).elim
  · intro i t p h1
    exact (start_own h1).elim
  · intro F1 H1 σ σ' s h1
    exact q _ _ F1 H1 (up_of s.b s.st.wd) .non h1
  · intro F1 H1 v t b w1 r1 h1
    exact q _ _ F1 H1 (up_of b w1) r1 h1
  · intro F1 H1 σ σ' s h1
    cases h1
  · intro F1 H1 σ σ' s h1
    cases h1
  · intro F1 H1 p t b w1 o nf c z h1
    have r := own_rt nf o
    have w2 := freeze_wd w1 nf c fun _ e => o.nt e
    refine q _ _ _ H1 ⟨b.1.trans (le_freeze nf), b.2.1, b.2.2.1, fun a ha => ?_, w2⟩ r h1
    rw [← b.2.2.2 a ha]
    have : a ≠ p := fun e => ha (by rw [e]; exact z)
    unfold freezeO
    cases H1 p with
    | none => rfl
    | some ob => exact upd_ne this
omit [Tt] in
/-- .. where what is handed back is new -/
def spO (n : Nat) (f : Fn) : Sp := fun vs H Q _ => ∃ (I : Tt) (F : Hp) (ts : List T), Wd I.tp F H ∧ RTs F vs ts ∧ ts.length = n ∧ ∃ k, f ts k = true ∧ ∀ p t F' H', Up I.tp F H F' H' → H p = none → F' p = none → OwnAt F' H' p t → k t = true → Q (.ref p) H'
def fnO (n : Nat) (m : MS) : Fn := fun ts k => m (startM n ts) fun r => match r with
  | .ro t => k t
  | _ => false
omit [Tt] in
theorem spO_len {n : Nat} {f : Fn} {vs : List V} {H : Hp} {Q : VK} {E : XK} (h : spO n f vs H Q E) : vs.length = n := by
  obtain ⟨I, F, ts, _, r, l, _⟩ := h
  rw [r.len, l]
theorem o_call {n : Nat} {f : Fn} {dvs : List V} {ds : List T} {E : XK} {t : TA} {m : MA} (hd : ∀ F, RTs F dvs ds) (h : SA d t m) : SO d (tCall (spO n f) dvs E t) (mCall n f ds m) := by
  intro F H σ σ' st k hk Q q
  refine h F H σ σ' st _ hk _ fun vs xs F1 H1 u1 r1 h1 => ?_
  rw [Bool.and_eq_true, decide_eq_true_eq] at h1
  have e := st.wd.dt
  subst e
  exact ⟨inferInstance, F1, _, u1.wd, r1.append (hd F1), h1.1, k, h1.2, fun p t F2 H2 u2 n1 n2 o h2 => q p t F2 H2 (u1.trans u2 st.wd) (none_back u1 st.wd n1) n2 o h2⟩
omit [Tt] in
theorem run_fnO {N : List Str} {n : Nat} {ts : TS} {ms : MS} (h : ∀ (I : Tt) (d : Option Addr), SSt d false ts ms) {vs : List V} {H : Hp} {Q : VK} {E : XK} (sp : spO n (fnO N.length ms) vs H Q E) : ts { nx := fun _ H' => Q .non H', rt := Q } (L2.start N vs) H := by
  obtain ⟨I, F, xs, w, r, l, k, hf, q⟩ := sp
  generalize hd : I.tp = d at w q
  refine h I d none (fun _ => rfl) (BB d F H) (fun p => H p = none) (bok_base w) F H _ _ ⟨⟨Le.refl _, fun _ _ _ _ e => e, fun _ e => e, fun _ _ => rfl⟩, ⟨w, ?_, ?_⟩, ?_, fun _ z => nomatch z⟩ noLk _ hf _ ⟨?_, ?_, ?_, ?_, ?_⟩
  · show Paired _ (startM N.length xs) (L2.start N vs)
    unfold startM L2.start
    rw [r.len]
    exact start_sl _ r
  · intro i j p q t u _ h1
    exact (start_own h1).elim
  · intro i t p h1
    exact (start_own h1).elim
  · intro F1 H1 σ σ' s h1
    cases h1
  · intro F1 H1 v t b w1 r1 h1
    cases h1
  · intro F1 H1 σ σ' s h1
    cases h1
  · intro F1 H1 σ σ' s h1
    cases h1
  · intro F1 H1 p t b w1 o nf c z h1
    exact q p t F1 H1 ⟨b.1, b.2.1, b.2.2.1, b.2.2.2, w1⟩ z nf o h1
/-! a, b = new, new -/
def mParO (i j : Nat) (ma mb : ME) : MS := fun σ k => ma σ fun x => mb σ fun y => k (.nx ((σ.set i (.own x)).set j (.own y)))
theorem z_parO {i j : Nat} (ha : SO d ta ma) (hb : SO d tb mb) (hz : pz = false ∨ (i ≠ 0 ∧ j ≠ 0)) (hij : i ≠ j) : SSt d pz (tPar i j (tCons ta (tCons tb tNil))) (mParO i j ma mb) := by
  intro pn hp B Z bo F H σ σ' s _ k hk D e
  refine ha F H σ σ' s.st _ hk _ fun p x F1 H1 u1 n1 n2 o h1 => ?_
  have s1 := s.up bo u1
  refine hb F1 H1 σ σ' s1.st _ h1 _ fun p2 y F2 H2 u2 m1 m2 o2 h2 => ?_
  have s2 := s1.up bo u2
  have c := tape_nn s.st.wd n1
  have c2 := tape_nn s1.st.wd m1
  obtain ⟨ob, hp1⟩ := o.some
  have hp2 : H2 p = some ob := u2.keep p ob c (o.nt hp1) hp1
  have pp : p2 ≠ p := fun z => by
    rw [z, hp1] at m1
    cases m1
  have o' : OwnAt F2 H2 p x := o.mono u2.f (by rw [hp1, hp2])
  have nf' : F2 p = none := by rw [u2.fresh p (by rw [hp1]; exact fun z => nomatch z)]; exact n2
  have no1 := noOwn_new s.st n1
  have no2 := noOwn_new s1.st m1
  have st3 := sts_own (i := i) s2.st o' nf' c fun j t q _ a b => no1 j t q a b
  have st4 := sts_own (i := j) st3 o2 m2 c2 fun l t q nl a b => by
    rcases get_set a with ⟨el, _⟩ | ⟨nl2, g⟩
    · subst el
      rcases get_set b with ⟨_, eb⟩ | ⟨nb, _⟩
      · cases eb
        exact pp.symm
      · exact absurd rfl nb
    · rcases get_set b with ⟨el, _⟩ | ⟨_, gb⟩
      · exact absurd el nl2
      · exact no2 l t q g gb
  refine ⟨.ref p, .ref p2, rfl, e.nx F2 H2 _ _ ⟨s2.b, st4, oz_own (oz_own s2.oz (bo.new F H p s.b s.st.wd n1)) (bo.new F1 H1 p2 s1.b s1.st.wd m1), fun a ha => ?_⟩ h2⟩
  rcases hz with z | ⟨z1, z2⟩
  · rw [hp z] at ha
    cases ha
  · rw [List.getElem?_set_ne z2, List.getElem?_set_ne z1]
    exact s2.pin a ha
end
section
omit [Cl] [Tt]
variable {X : Cx}
theorem ps_lockA {st : Stmt} {t : TS} (h : PS X st t) : PS X st (tLockS t) := ⟨fun pins s σ H D I q => q.elim ((ps_lock h).run pins s σ H D I) (h.run pins s σ H D I)⟩
theorem pe_lockB {e : Expr} {t : TE} (h : PE X e t) : PE X e (tLockA t) := pe_lockA h (pe_lock h)
end
end Tr
set_option maxRecDepth 100000
set_option maxHeartbeats 4000000
/-! Trees: instances made; sorted texts. -/
namespace Tr
open PySem PySem.Spec PyProof.Rows L2 Tm
variable [Cl] [Tt]
section
variable {d pn : Option Addr} {pz : Bool} {pre : Option Nat} {ta tb tc te tv : TE} {ma mb mc me mv : ME} {t u : TS} {m n : MS} {B : Hp → Hp → Prop} {Z : Addr → Prop} {F H F' H' : Hp} {σ τ : L2.St} {σ' τ' : Sg}
/-- a step that may change x, too -/
structure UpX (d : Option Addr) (x : Addr) (F H F' H' : Hp) : Prop where
  f : Le F F'
  keep : ∀ a o, d ≠ some a → a ≠ x → Nt o → H a = some o → H' a = some o
  there : ∀ a, H a ≠ none → H' a ≠ none
  fresh : ∀ a, a ≠ x → H a ≠ none → F' a = F a
  wd : Wd d F' H'
omit [Tt] in
def spI (C n : Nat) (f : Fn) : Sp := fun vs H Q _ => ∃ (I : Tt) (F : Hp) (x dx : Addr) (ws : List V) (ts : List T), vs = V.ref x :: ws ∧ Wd I.tp F H ∧ H x = some (.ins (Cl.ad C) dx []) ∧ F x = none ∧ I.tp ≠ some x ∧ RTs F ws ts ∧ ts.length = n ∧ ∃ k, f ts k = true ∧
  ∀ t F' H', UpX I.tp x F H F' H' → F' x = none → OwnAt F' H' x t → k t = true → Q .non H'
omit [Tt] in
theorem spI_len {C n : Nat} {f : Fn} {vs : List V} {H : Hp} {Q : VK} {E : XK} (h : spI C n f vs H Q E) : vs.length = n + 1 := by
  obtain ⟨I, F, x, dx, ws, ts, rfl, _, _, _, _, r, l, _⟩ := h
  rw [List.length_cons, r.len, l]
theorem make_up {F H : Hp} {x dx : Addr} {o : HO} (w : Wd d F H) (hx : H x = none) (hdx : H dx = none) (ne : dx ≠ x) : Wd d F (upd (upd H dx (.own x)) x o) ∧ F x = none ∧ d ≠ some x := by
  have h1 : (upd H dx (.own x)) x = none := by rw [upd_ne (Ne.symm ne)]; exact hx
  exact ⟨new_wd (new_wd w hdx) h1, f_none w hx, tape_nn w hx⟩
theorem make_end {F H F' H' : Hp} {x dx : Addr} {o : HO} (hx : H x = none) (hdx : H dx = none) (ne : dx ≠ x) (u : UpX d x F (upd (upd H dx (.own x)) x o) F' H') : Up d F H F' H' := by
  have back : ∀ a, H a ≠ none → a ≠ x ∧ a ≠ dx := fun a h => ⟨fun z => h (by rw [z]; exact hx), fun z => h (by rw [z]; exact hdx)⟩
  refine ⟨u.f, fun a ob n nt e => ?_, fun a h => u.there a (there_upd a (there_upd a h)), fun a h => ?_, u.wd⟩
  · obtain ⟨n1, n2⟩ := back a (by rw [e]; exact fun z => nomatch z)
    exact u.keep a ob n n1 nt (by rw [upd_ne n1, upd_ne n2]; exact e)
  · obtain ⟨n1, n2⟩ := back a h
    exact u.fresh a n1 (by rw [upd_ne n1, upd_ne n2]; exact h)
def mMake (n : Nat) (f : Fn) (ds : List T) (m : MA) : ME := fun σ k => m σ fun xs => decide ((xs ++ ds).length = n) && f (xs ++ ds) k
theorem o_make {C n : Nat} {f : Fn} {dvs : List V} {ds : List T} {E : XK} {t : TA} {m : MA} (hd : ∀ F, RTs F dvs ds) (h : SA d t m) : SO d (tMake (Cl.ad C) (spI C n f) dvs E t) (mMake n f ds m) := by
  intro F H σ σ' st k hk Q q
  refine h F H σ σ' st _ hk _ fun vs xs F1 H1 u1 r1 h1 x dx hx hdx ne => ?_
  rw [Bool.and_eq_true, decide_eq_true_eq] at h1
  have ed := st.wd.dt
  subst ed
  obtain ⟨w, nf, c⟩ := make_up (o := .ins (Cl.ad C) dx []) u1.wd hx hdx ne
  refine ⟨inferInstance, F1, x, dx, _, _, rfl, w, upd_same, nf, c, r1.append (hd F1), h1.1, k, h1.2, fun t F2 H2 u2 n2 o2 h2 => ⟨rfl, ?_⟩⟩
  exact q x t F2 H2 (u1.trans (make_end hx hdx ne u2) st.wd) (none_back u1 st.wd hx) n2 o2 h2
def mMakeK (n k2 : Nat) (f : Fn) (m mk : MA) : ME := fun σ k => m σ fun xs => mk σ fun ys => decide (xs.length = n) && (decide (ys.length = k2) && f (xs ++ ys) k)
theorem o_makeK {C n k2 : Nat} {f : Fn} {E : XK} {t tk : TA} {m mk : MA} (h : SA d t m) (hk : SA d tk mk) : SO d (tMakeK (Cl.ad C) n k2 (spI C (n + k2) f) (fun vs zs => vs ++ zs) E t tk) (mMakeK n k2 f m mk) := by
  intro F H σ σ' st k hkk Q q
  refine h F H σ σ' st _ hkk _ fun vs xs F1 H1 u1 r1 h1 => ?_
  refine hk F1 H1 σ σ' (st.up u1) _ h1 _ fun ws ys F2 H2 u2 r2 h2 => ?_
  rw [Bool.and_eq_true, Bool.and_eq_true, decide_eq_true_eq, decide_eq_true_eq] at h2
  refine ⟨by rw [r1.len]; exact h2.1, by rw [r2.len]; exact h2.2.1, fun x dx hx hdx ne => ?_⟩
  obtain ⟨w, nf, c⟩ := make_up (o := .ins (Cl.ad C) dx []) u2.wd hx hdx ne
  have u12 := u1.trans u2 st.wd
  have ed := st.wd.dt
  subst ed
  refine ⟨inferInstance, F2, x, dx, _, _, rfl, w, upd_same, nf, c, (r1.mono u2.f).append r2, by rw [List.length_append, h2.1, h2.2.1], k, h2.2.2, fun t F3 H3 u3 n3 o3 h3 => ⟨rfl, ?_⟩⟩
  exact q x t F3 H3 (u12.trans (make_end hx hdx ne u3) st.wd) (none_back u12 st.wd hx) n3 o3 h3
/-! self.f = e -/
def putFt (f : Str) (v : T) : List (Str × T) → List (Str × T)
  | [] => [(f, v)]
  | (g, x) :: r => if eqZ g f then (g, v) :: r else (g, x) :: putFt f v r
theorem putFt_rt {F : Hp} {f : Str} {v : V} {t : T} (r0 : RT F v t) : ∀ {ts : List (Str × T)} {fs : List (Str × V)}, RTf F fs ts → RTf F (putF f v fs) (putFt f t ts)
  | [], _, r => by
    cases r
    exact .cons r0 .nil
  | (g, u) :: ts, _, r => by
    cases r with
    | cons r1 r2 =>
      unfold putFt putF
      rw [eqZ_eq]
      by_cases c : g = f
      · rw [decide_eq_true c, if_pos c]
        exact .cons r0 r2
      · rw [decide_eq_false c, if_neg c]
        exact .cons r1 (putFt_rt r0 r2)
def mSFld (i C : Nat) (f : Str) (mv : ME) : MS := fun σ k => mv σ fun v => match σ[i]? with
  | some (.own (.ins c fts)) => decide (c = C) && (decide (fts.length < 1000) && k (.nx (σ.set i (.own (.ins c (putFt f v fts))))))
  | _ => false
theorem z_sfld {i C : Nat} {f : Str} (hc : Cls Cl.K (Cl.ad C)) (hn : NoAttr Cl.K (Cl.ad C) f) (hv : SE d tv mv) : SSt d pz (sFld Cl.K (tVar i) tv f) (mSFld i C f mv) := by
  intro pn hp B Z bo F H σ σ' s _ k hk D e
  refine hv F H σ σ' s.st _ hk _ fun v x F1 H1 u1 r1 h1 => ?_
  have s1 := s.up bo u1
  split at h1
  · rename_i c fts ei
    rw [Bool.and_eq_true, Bool.and_eq_true, decide_eq_true_eq, decide_eq_true_eq] at h1
    obtain ⟨rfl, hl, h1⟩ := h1
    obtain ⟨p, ep, o, nf, cc⟩ := s1.st.ownAt ei
    obtain ⟨dx, fs, hh, rr⟩ := o
    refine ⟨_, ep, p, _, dx, fs, rfl, hh, hc, hn, by rw [rr.len]; exact hl, ?_⟩
    exact e.nx F1 _ σ _ (ss_put bo s1 ei ep (show OwnAt F1 (upd H1 p _) p (.ins c (putFt f x fts)) from ⟨dx, _, upd_same, putFt_rt r1 rr⟩) nf cc (by rw [hh]; exact fun z => nomatch z)) h1
  · cases h1
/-- an __init__'s body -/
def fnI (N C : Nat) (m : MS) : Fn := fun ts k => m (.own (.ins C []) :: startM (N - 1) ts) fun r => match r with
  | .nx (.own t :: _) => k t
  | _ => false
def BX (d : Option Addr) (x : Addr) (F0 H0 : Hp) : Hp → Hp → Prop := fun F H => Le F0 F ∧ (∀ a o, d ≠ some a → a ≠ x → Nt o → H0 a = some o → H a = some o) ∧ (∀ a, H0 a ≠ none → H a ≠ none) ∧ (∀ a, a ≠ x → H0 a ≠ none → F a = F0 a) ∧ H x ≠ none
theorem bok_init {F0 H0 : Hp} {x : Addr} (w0 : Wd d F0 H0) (cx : d ≠ some x) : BOk d (BX d x F0 H0) (fun p => H0 p = none ∨ p = x) where
  up := fun F H F' H' ⟨l, k, th, f, hx⟩ w u => ⟨l.trans u.f, fun a o n nx nt e => u.keep a o n nt (k a o n nx nt e), fun a ha => u.there a (th a ha), fun a nx ha => by
    rw [u.fresh a (th a ha), f a nx ha], u.there x hx⟩
  put := fun F H p o' ⟨l, k, th, f, hx⟩ w z nf c hp => ⟨l, fun a o n nx nt e => by
    have : a ≠ p := fun q => by
      rcases z with z | z
      · rw [← q, e] at z
        cases z
      · exact nx (q.trans z)
    rw [upd_ne this]
    exact k a o n nx nt e, fun a ha => there_upd a (th a ha), f, by
    by_cases q : x = p
    · rw [q, upd_same]
      exact fun z => nomatch z
    · rw [upd_ne q]
      exact hx⟩
  frz := fun F H p o ⟨l, k, th, f, hx⟩ w z nf hp c => ⟨l.trans (le_new nf), k, th, fun a nx ha => by
    have : a ≠ p := fun q => by
      rcases z with z | z
      · exact ha (by rw [q]; exact z)
      · exact nx (q.trans z)
    rw [upd_ne this]
    exact f a nx ha, hx⟩
  new := fun F H p ⟨l, k, th, f, hx⟩ w hp => by
    by_cases e : p = x
    · exact .inr e
    · left
      cases q : H0 p with
      | none => rfl
      | some o => exact absurd hp (th p (by rw [q]; exact fun z => nomatch z))
omit [Tt] in
theorem run_init {N : List Str} {C n : Nat} {ts : TS} {ms : MS} (h : ∀ (I : Tt) (d : Option Addr), SSt d true ts ms) {vs : List V} {H : Hp} {Q : VK} {E : XK} (hN : N.length ≠ 0) (sp : spI C n (fnI N.length C ms) vs H Q E) : ts { nx := fun _ H' => Q .non H', rt := Q } (L2.start N vs) H := by
  obtain ⟨I, F, x, dx, ws, xs, rfl, w, hx, nf, c, r, l, k, hf, q⟩ := sp
  generalize hd : I.tp = d at w c q
  have up_of : ∀ {F' H'}, BX d x F H F' H' → Wd d F' H' → UpX d x F H F' H' := fun b w' => ⟨b.1, b.2.1, b.2.2.1, b.2.2.2.1, w'⟩
  have own1 : ∀ {i : Nat} {t : T} {p : Addr}, (Sl.own (.ins C []) :: startM (N.length - 1) xs)[i]? = some (Sl.own t) → (L2.start N (V.ref x :: ws))[i]? = some (some (V.ref p)) → p = x ∧ i = 0 := by
    intro i t p h1 h2
    cases i with
    | zero =>
      cases h2
      exact ⟨rfl, rfl⟩
    | succ i => exact (start_own (show (xs.map Sl.val ++ List.replicate _ Sl.un)[i]? = some (Sl.own t) from h1)).elim
  refine h I d (some x) (fun z => nomatch z) (BX d x F H) (fun p => H p = none ∨ p = x) (bok_init w c) F H _ _ ⟨⟨Le.refl _, fun _ _ _ _ _ e => e, fun _ e => e, fun _ _ _ => rfl, by rw [hx]; exact fun z => nomatch z⟩, ⟨w, ?_, ?_⟩, ?_, ?_⟩ noLk _ hf _ ⟨?_, ?_, ?_, ?_, ?_⟩
  · show Paired _ (Sl.own (.ins C []) :: startM (N.length - 1) xs) (L2.start N (V.ref x :: ws))
    unfold startM L2.start
    refine .cons (.own ⟨dx, [], hx, .nil⟩ nf c) ?_
    have e : N.length - (V.ref x :: ws).length = N.length - 1 - xs.length := by
      rw [List.length_cons, r.len]
      omega
    rw [e]
    exact start_sl _ r
  · intro i j p p2 t u ne h1 h2 h3 h4
    exact absurd ((own1 h1 h3).2.trans (own1 h2 h4).2.symm) ne
  · intro i t p h1 h2
    exact .inr (own1 h1 h2).1
  · intro a ha
    cases ha
    rfl
  · intro F1 H1 σ σ' s h1
    split at h1
    · rename_i r' t rest e
      cases e
      obtain ⟨p, ep, o, nf1, _⟩ := s.st.ownAt (i := 0) (t := t) rfl
      rw [s.pin x rfl] at ep
      cases ep
      exact q t F1 H1 (up_of s.b s.st.wd) nf1 o h1
    · cases h1
  · intro F1 H1 v t b w1 r1 h1
    cases h1
  · intro F1 H1 σ σ' s h1
    cases h1
  · intro F1 H1 σ σ' s h1
    cases h1
  · intro F1 H1 p t b w1 o nf2 c2 z h1
    cases h1
/-! sorted, of texts -/
theorem insZ_perm (z : Str) : ∀ l : List Str, (insZ z l).Perm (z :: l)
  | [] => .refl _
  | y :: r => by
    unfold insZ
    split
    · exact ((insZ_perm z r).cons y).trans (.swap z y r)
    · exact .refl _
theorem sortZ_perm : ∀ l : List Str, (sortZ l).Perm l
  | [] => .refl _
  | z :: r => (insZ_perm z (sortZ r)).trans ((sortZ_perm r).cons z)
/-- not greater -/
def LeZ (a b : Str) : Prop := ltZ b a = false
theorem ltZ_iff {a b : Str} : ltZ a b = true ↔ a.cps.toList < b.cps.toList := by
  unfold ltZ
  rw [ltL_eq, decide_eq_true_eq]
theorem leZ_iff {a b : Str} : LeZ a b ↔ ¬ b.cps.toList < a.cps.toList := by
  unfold LeZ
  rw [← Bool.not_eq_true, ltZ_iff]
theorem leZ_trans {a b c : Str} (h : LeZ a b) (g : LeZ b c) : LeZ a c := by
  rw [leZ_iff] at h g ⊢
  rw [List.not_lt] at h g ⊢
  exact List.le_trans h g
theorem leZ_anti {a b : Str} (h : LeZ a b) (g : LeZ b a) : a = b := by
  rw [leZ_iff, List.not_lt] at h g
  have e := List.le_antisymm h g
  obtain ⟨x⟩ := a
  obtain ⟨y⟩ := b
  exact congrArg Str.mk (Array.toList_inj.mp e)
theorem insZ_sorted (z : Str) : ∀ {l : List Str}, l.Pairwise LeZ → (insZ z l).Pairwise LeZ
  | [], _ => List.pairwise_singleton ..
  | y :: r, h => by
    rw [List.pairwise_cons] at h
    unfold insZ
    by_cases c : ltZ y z = true
    · rw [if_pos c, List.pairwise_cons]
      refine ⟨fun a ha => ?_, insZ_sorted z h.2⟩
      rcases List.mem_cons.mp ((insZ_perm z r).mem_iff.mp ha) with rfl | ha
      · rw [leZ_iff]
        rw [ltZ_iff] at c
        exact List.lt_asymm c
      · exact h.1 a ha
    · rw [if_neg c, List.pairwise_cons]
      have zy : LeZ z y := by
        rw [Bool.not_eq_true] at c
        exact c
      refine ⟨fun a ha => ?_, by rw [List.pairwise_cons]; exact h⟩
      rcases List.mem_cons.mp ha with rfl | ha
      · exact zy
      · exact leZ_trans zy (h.1 a ha)
theorem sortZ_sorted : ∀ l : List Str, (sortZ l).Pairwise LeZ
  | [] => .nil
  | z :: r => insZ_sorted z (sortZ_sorted r)
theorem risingS_ok : ∀ (p : Str) (l : List Str), risingS p l = true → (p :: l).Pairwise LeZ
  | p, [], _ => List.pairwise_singleton ..
  | p, x :: r, h => by
    unfold risingS at h
    rw [Bool.and_eq_true] at h
    have ih := risingS_ok x r h.2
    have px : LeZ p x := by
      rw [leZ_iff]
      intro q
      have : ltCps x.cps.toList p.cps.toList = true := by
        rw [PyProof.Rows.ltCps_eq]
        exact decide_eq_true q
      rw [this] at h
      cases h.1
    rw [List.pairwise_cons]
    refine ⟨fun a ha => ?_, ih⟩
    rcases List.mem_cons.mp ha with rfl | ha
    · exact px
    · rw [List.pairwise_cons] at ih
      exact leZ_trans px (ih.1 a ha)
theorem sorted_one {ys xs : List Str} (p : ys.Perm xs) (s : sortedS ys = true) : ys = sortZ xs := by
  have h1 : ys.Pairwise LeZ := by
    cases ys with
    | nil => exact .nil
    | cons a l => exact risingS_ok a l s
  have h2 := sortZ_sorted xs
  exact List.Perm.eq_of_pairwise (fun a b _ _ => leZ_anti) h1 h2 (p.trans (sortZ_perm xs).symm)
def bSortS : B1 := fun xs k => match xs with
  | [.lst ts] => match tstrs ts with
    | some zs => decide (zs.length < 64) && k (.lst ((sortZ zs).map T.str))
    | none => false
  | [.tup ts] => match tstrs ts with
    | some zs => decide (zs.length < 64) && k (.lst ((sortZ zs).map T.str))
    | none => false
  | _ => false
theorem bn_sortE : BN d (rSortedE Cl.K) bSortS := by
  intro F H vs xs wd r k hk Q q
  unfold bSortS at hk
  split at hk
  · obtain ⟨v, rfl, r1⟩ := rts1 r
    split at hk
    · rename_i zs e
      rw [Bool.and_eq_true, decide_eq_true_eq] at hk
      cases r1 with
      | lst f r =>
        refine ⟨_, zs, rfl, .inl (by rw [← tstrs_ok r e]; exact rd_sql wd f), hk.1, fun ys p pm so hp => ?_⟩
        rw [sorted_one pm so]
        exact q p _ F _ (up_new wd hp) hp (f_none wd hp) (show OwnAt F (upd H p _) p (.lst _) from ⟨_, upd_same, map_rts (fun _ => .str _) _⟩) hk.2
    · cases hk
  · obtain ⟨v, rfl, r1⟩ := rts1 r
    split at hk
    · rename_i zs e
      rw [Bool.and_eq_true, decide_eq_true_eq] at hk
      cases r1 with
      | tup f r =>
        refine ⟨_, zs, rfl, .inr (by rw [← tstrs_ok r e]; exact rd_sqt wd f), hk.1, fun ys p pm so hp => ?_⟩
        rw [sorted_one pm so]
        exact q p _ F _ (up_new wd hp) hp (f_none wd hp) (show OwnAt F (upd H p _) p (.lst _) from ⟨_, upd_same, map_rts (fun _ => .str _) _⟩) hk.2
    · cases hk
  · cases hk
end
end Tr
set_option maxRecDepth 100000
set_option maxHeartbeats 4000000
/-! Trees: what is one's own, lent out while an expression is reckoned. -/
namespace Tr
open PySem PySem.Spec PyProof.Rows L2 Tm
variable [Cl] [Tt]
mutual
/-- no dict (list, instance) within -/
def okT (bd bl bi : Bool) : T → Bool
  | .tup ts => okTs bd bl bi ts
  | .tpl ts => okTs bd bl bi ts
  | .lst ts => !bl && okTs bd bl bi ts
  | .dic kts => !bd && okTd bd bl bi kts
  | .ins _ fts => !bi && okTf bd bl bi fts
  | _ => true
def okTs (bd bl bi : Bool) : List T → Bool
  | [] => true
  | t :: ts => okT bd bl bi t && okTs bd bl bi ts
def okTd (bd bl bi : Bool) : List (Key × T) → Bool
  | [] => true
  | (_, t) :: ts => okT bd bl bi t && okTd bd bl bi ts
def okTf (bd bl bi : Bool) : List (Str × T) → Bool
  | [] => true
  | (_, t) :: ts => okT bd bl bi t && okTf bd bl bi ts
end
/-- F but for what is of these kinds -/
def But' (bd bl bi : Bool) (F G : Hp) : Prop := ∀ a o, F a = some o → G a = some o ∨ (bd = true ∧ ∃ kvs, o = .dK kvs) ∨ (bl = true ∧ ∃ xs, o = .lst xs) ∨ (bi = true ∧ ∃ C dx fs, o = .ins C dx fs)
mutual
theorem RT.cutT {bd bl bi : Bool} {F G : Hp} (s : But' bd bl bi F G) : ∀ {t : T} {v : V}, RT F v t → okT bd bl bi t = true → RT G v t
  | .non, _, h, _ => by cases h; exact .non
  | .bl b, _, h, _ => by cases h; exact .bl b
  | .int i, _, h, _ => by cases h; exact .int i
  | .str z, _, h, _ => by cases h; exact .str z
  | .ty z, _, h, _ => by cases h; exact .ty z
  | .cls z, _, h, _ => by cases h; exact .cls z
  | .tape, _, h, _ => by
    cases h with
    | tape e => exact .tape e
  | .tup ts, _, h, k => by
    cases h with
    | tup e r =>
      unfold okT at k
      refine .tup ?_ (RTs.cutT s r k)
      rcases e with ⟨ob, z, e⟩ | e
      · rcases s _ _ e with q | ⟨_, _, q⟩ | ⟨_, _, q⟩ | ⟨_, _, _, _, q⟩
        · exact .inl ⟨ob, z, q⟩
        · cases q
        · cases q
        · cases q
      · exact .inr e
  | .tpl ts, _, h, k => by
    cases h with
    | tpl e r =>
      unfold okT at k
      refine .tpl ?_ (RTs.cutT s r k)
      rcases s _ _ e with q | ⟨_, _, q⟩ | ⟨_, _, q⟩ | ⟨_, _, _, _, q⟩
      · exact q
      · cases q
      · cases q
      · cases q
  | .lst ts, _, h, k => by
    cases h with
    | lst e r =>
      unfold okT at k
      rw [Bool.and_eq_true] at k
      rcases s _ _ e with q | ⟨_, _, q⟩ | ⟨b, _, q⟩ | ⟨_, _, _, _, q⟩
      · exact .lst q (RTs.cutT s r k.2)
      · cases q
      · rw [b] at k
        cases k.1
      · cases q
  | .dic ts, _, h, k => by
    cases h with
    | dic e r =>
      unfold okT at k
      rw [Bool.and_eq_true] at k
      rcases s _ _ e with q | ⟨b, _, q⟩ | ⟨_, _, q⟩ | ⟨_, _, _, _, q⟩
      · exact .dic q (RTd.cutT s r k.2)
      · rw [b] at k
        cases k.1
      · cases q
      · cases q
  | .ins C ts, _, h, k => by
    cases h with
    | ins e r =>
      unfold okT at k
      rw [Bool.and_eq_true] at k
      rcases s _ _ e with q | ⟨_, _, q⟩ | ⟨_, _, q⟩ | ⟨b, _, _, _, q⟩
      · exact .ins q (RTf.cutT s r k.2)
      · cases q
      · cases q
      · rw [b] at k
        cases k.1
theorem RTs.cutT {bd bl bi : Bool} {F G : Hp} (s : But' bd bl bi F G) : ∀ {ts : List T} {vs : List V}, RTs F vs ts → okTs bd bl bi ts = true → RTs G vs ts
  | [], _, h, _ => by cases h; exact .nil
  | t :: ts, _, h, k => by
    cases h with
    | cons a b =>
      unfold okTs at k
      rw [Bool.and_eq_true] at k
      exact .cons (RT.cutT s a k.1) (RTs.cutT s b k.2)
theorem RTd.cutT {bd bl bi : Bool} {F G : Hp} (s : But' bd bl bi F G) : ∀ {ts : List (Key × T)} {vs : List (Key × V)}, RTd F vs ts → okTd bd bl bi ts = true → RTd G vs ts
  | [], _, h, _ => by cases h; exact .nil
  | (_, t) :: ts, _, h, k => by
    cases h with
    | cons a b =>
      unfold okTd at k
      rw [Bool.and_eq_true] at k
      exact .cons (RT.cutT s a k.1) (RTd.cutT s b k.2)
theorem RTf.cutT {bd bl bi : Bool} {F G : Hp} (s : But' bd bl bi F G) : ∀ {ts : List (Str × T)} {vs : List (Str × V)}, RTf F vs ts → okTf bd bl bi ts = true → RTf G vs ts
  | [], _, h, _ => by cases h; exact .nil
  | (_, t) :: ts, _, h, k => by
    cases h with
    | cons a b =>
      unfold okTf at k
      rw [Bool.and_eq_true] at k
      exact .cons (RT.cutT s a k.1) (RTf.cutT s b k.2)
end
def isD : T → Bool
  | .dic _ => true
  | _ => false
def isL : T → Bool
  | .lst _ => true
  | _ => false
def isI : T → Bool
  | .ins _ _ => true
  | _ => false
/-- the slot's own thing is lent while the expression is reckoned; what comes out holds no thing of its kind -/
def mLend (i : Nat) (m : ME) : ME := fun σ k => match σ[i]? with
  | some (.own x) => m (σ.set i (.val x)) fun t => okT (isD x) (isL x) (isI x) t && k t
  | _ => m σ k
section
variable {d : Option Addr} {te : TE} {me : ME} {F H : Hp} {σ : L2.St} {σ' : Sg}
def cut (F : Hp) (p : Addr) : Hp := fun a => if a = p then none else F a
theorem cut_ne {F : Hp} {p a : Addr} (h : a ≠ p) : cut F p a = F a := by unfold cut; rw [if_neg h]
theorem cut_same {F : Hp} {p : Addr} : cut F p p = none := by unfold cut; rw [if_pos rfl]
theorem lend_aux {F H F2 H2 : Hp} {i : Nat} {p : Addr} {x : T} {ob : HO} (w : Wd d F H) (o : OwnAt F H p x) (hh : H p = some ob) (nf : F p = none) (u2 : Up d (upd F p ob) H F2 H2) :
    Up d F H (cut F2 p) H2 ∧ But' (isD x) (isL x) (isI x) F2 (cut F2 p) := by
  have hF2 : F2 p = some ob := u2.f _ _ upd_same
  refine ⟨⟨fun a ob2 e => ?_, u2.keep, u2.there, fun a ha => ?_, ⟨w.dt, fun a ob2 e => ?_, fun y hy => ⟨(u2.wd.tape y hy).1, ?_⟩, u2.wd.tabs, fun a ob2 e => ?_⟩⟩, fun a ob2 e => ?_⟩
  · have ne : a ≠ p := fun z => by rw [z, nf] at e; cases e
    rw [cut_ne ne]
    exact u2.f a ob2 (by rw [upd_ne ne]; exact e)
  · by_cases c : a = p
    · rw [c, cut_same, nf]
    · rw [cut_ne c, u2.fresh a ha, upd_ne c]
  · have ne : a ≠ p := fun z => by rw [z, cut_same] at e; cases e
    rw [cut_ne ne] at e
    exact u2.wd.sub a ob2 e
  · by_cases c : y = p
    · rw [c, cut_same]
    · rw [cut_ne c]
      exact (u2.wd.tape y hy).2
  · have ne : a ≠ p := fun z => by rw [z, cut_same] at e; cases e
    rw [cut_ne ne] at e
    exact u2.wd.nt a ob2 e
  · by_cases c : a = p
    · right
      rw [c, hF2] at e
      cases e
      cases x with
      | dic ts =>
        obtain ⟨vs, e1, _⟩ := o
        rw [hh] at e1
        exact .inl ⟨rfl, vs, Option.some.inj e1⟩
      | lst ts =>
        obtain ⟨vs, e1, _⟩ := o
        rw [hh] at e1
        exact .inr (.inl ⟨rfl, vs, Option.some.inj e1⟩)
      | ins C ts =>
        obtain ⟨dx, vs, e1, _⟩ := o
        rw [hh] at e1
        exact .inr (.inr ⟨rfl, _, dx, vs, Option.some.inj e1⟩)
      | non => exact o.elim
      | bl _ => exact o.elim
      | int _ => exact o.elim
      | str _ => exact o.elim
      | tup _ => exact o.elim
      | tpl _ => exact o.elim
      | ty _ => exact o.elim
      | cls _ => exact o.elim
      | tape => exact o.elim
    · exact .inl (by rw [cut_ne c]; exact e)
theorem s_lend (i : Nat) (h : SE d te me) : SE d te (mLend i me) := by
  intro F H σ σ' st k hk Q q
  unfold mLend at hk
  split at hk
  · rename_i x ei
    obtain ⟨p, ep, o, nf, c⟩ := st.ownAt ei
    obtain ⟨ob, hh⟩ := o.some
    refine h _ H σ _ (sts_frz st ei ep hh) _ hk Q fun v t F2 H2 u2 r2 h2 => ?_
    rw [Bool.and_eq_true] at h2
    obtain ⟨ua, ub⟩ := lend_aux (i := i) st.wd o hh nf u2
    exact q v t _ H2 ua (r2.cutT ub h2.1) h2.2
  · exact h F H σ σ' st k hk Q q
def okTop (bd bl bi : Bool) : T → Bool
  | .lst ts => okTs bd bl bi ts
  | .dic ts => okTd bd bl bi ts
  | .ins _ ts => okTf bd bl bi ts
  | _ => true
theorem OwnAt.drop {bd bl bi : Bool} {F G H : Hp} {p : Addr} {t : T} (s : But' bd bl bi F G) (o : OwnAt F H p t) (k : okTop bd bl bi t = true) : OwnAt G H p t := by
  cases t with
  | lst ts => obtain ⟨vs, e, r⟩ := o; exact ⟨vs, e, r.cutT s k⟩
  | dic ts => obtain ⟨vs, e, r⟩ := o; exact ⟨vs, e, r.cutT s k⟩
  | ins C ts => obtain ⟨dx, vs, e, r⟩ := o; exact ⟨dx, vs, e, r.cutT s k⟩
  | non => exact o.elim
  | bl _ => exact o.elim
  | int _ => exact o.elim
  | str _ => exact o.elim
  | tup _ => exact o.elim
  | tpl _ => exact o.elim
  | ty _ => exact o.elim
  | cls _ => exact o.elim
  | tape => exact o.elim
/-- .. where the expression makes a new thing -/
def mLendO (i : Nat) (m : ME) : ME := fun σ k => match σ[i]? with
  | some (.own x) => m (σ.set i (.val x)) fun t => okTop (isD x) (isL x) (isI x) t && k t
  | _ => m σ k
theorem o_lend (i : Nat) (h : SO d te me) : SO d te (mLendO i me) := by
  intro F H σ σ' st k hk Q q
  unfold mLendO at hk
  split at hk
  · rename_i x ei
    obtain ⟨p, ep, o, nf, c⟩ := st.ownAt ei
    obtain ⟨ob, hh⟩ := o.some
    refine h _ H σ _ (sts_frz st ei ep hh) _ hk Q fun p2 t F2 H2 u2 n1 n2 o2 h2 => ?_
    rw [Bool.and_eq_true] at h2
    obtain ⟨ua, ub⟩ := lend_aux (i := i) st.wd o hh nf u2
    have ne : p2 ≠ p := fun z => by rw [z, hh] at n1; cases n1
    exact q p2 t _ H2 ua n1 (by rw [cut_ne ne]; exact n2) (o2.drop ub h2.1) h2.2
  · exact h F H σ σ' st k hk Q q
/-- .. in a test -/
def mLendT (i : Nat) (m : MT) : MT := fun σ k => match σ[i]? with
  | some (.own x) => m (σ.set i (.val x)) k
  | _ => m σ k
theorem t_lend {tt : TT} {mt : MT} (i : Nat) (h : ST d tt mt) : ST d tt (mLendT i mt) := by
  intro F H σ σ' st k hk Q q
  unfold mLendT at hk
  split at hk
  · rename_i x ei
    obtain ⟨p, ep, o, nf, c⟩ := st.ownAt ei
    obtain ⟨ob, hh⟩ := o.some
    refine h _ H σ _ (sts_frz st ei ep hh) _ hk Q fun b F2 H2 u2 h2 => ?_
    exact q b _ H2 (lend_aux (i := i) st.wd o hh nf u2).1 h2
  · exact h F H σ σ' st k hk Q q
end
end Tr
set_option maxRecDepth 100000
set_option maxHeartbeats 4000000
/-! Trees: more built-ins. -/
namespace Tr
open PySem PySem.Spec PyProof.Rows L2 Tm
variable [Cl] [Tt]
section
variable {d : Option Addr} {ta tb tc te : TE} {ma mb mc me : ME}
/-! len(set(xs)), of unlike texts -/
def nodupZ : List Str → Bool
  | [] => true
  | z :: r => !(r.any fun y => eqZ z y) && nodupZ r
theorem nodupZ_ok : ∀ {l : List Str}, nodupZ l = true → l.Nodup
  | [], _ => .nil
  | z :: r, h => by
    unfold nodupZ at h
    rw [Bool.and_eq_true, Bool.not_eq_true'] at h
    rw [List.nodup_cons]
    refine ⟨fun m => ?_, nodupZ_ok h.2⟩
    have : (r.any fun y => eqZ z y) = true := List.any_eq_true.mpr ⟨z, m, by rw [eqZ_eq]; exact decide_eq_true rfl⟩
    rw [this] at h
    cases h.1
def mLenSet (m : ME) : ME := fun σ k => m σ fun x => match (match x with | .lst ts => tstrs ts | .tup ts => tstrs ts | _ => none) with
  | some zs => nodupZ zs && (decide (zs.length < 4000) && k (.int zs.length))
  | none => false
theorem s_lenSet (h : SE d te me) : SE d (tLenSetS Cl.K te) (mLenSet me) := by
  intro F H σ σ' st k hk Q q
  refine h F H σ σ' st _ hk _ fun v x F1 H1 u1 r1 h1 => ?_
  split at h1
  · rename_i zs e
    rw [Bool.and_eq_true, Bool.and_eq_true, decide_eq_true_eq] at h1
    cases r1 with
    | lst f r => exact ⟨_, zs, rfl, .inl (by rw [← tstrs_ok r e]; exact rd_sql u1.wd f), nodupZ_ok h1.1, by omega, q _ _ F1 H1 u1 (.int _) h1.2.2⟩
    | tup f r => exact ⟨_, zs, rfl, .inr (by rw [← tstrs_ok r e]; exact rd_sqt u1.wd f), nodupZ_ok h1.1, by omega, q _ _ F1 H1 u1 (.int _) h1.2.2⟩
    | non => cases e
    | bl _ => cases e
    | int _ => cases e
    | str _ => cases e
    | ty _ => cases e
    | cls _ => cases e
    | tape _ => cases e
    | tpl _ _ => cases e
    | dic _ _ => cases e
    | ins _ _ => cases e
  · cases h1
/-! a dict display -/
inductive SP (d : Option Addr) : List (TE × TE) → List (ME × ME) → Prop
  | nil : SP d [] []
  | cons {a b : TE} {m n : ME} {r : List (TE × TE)} {s : List (ME × ME)} : SE d a m → SE d b n → SP d r s → SP d ((a, b) :: r) ((m, n) :: s)
def mPairs : List (ME × ME) → Sg → (List (T × T) → Bool) → Bool
  | [], _, k => k []
  | (m, n) :: r, σ, k => m σ fun x => n σ fun y => mPairs r σ fun ps => k ((x, y) :: ps)
def keysOf : List (T × T) → Option (List (Key × T))
  | [] => some []
  | (x, y) :: r => match keyT x, keysOf r with
    | some j, some l => some ((j, y) :: l)
    | _, _ => none
def mDisp (ps : List (ME × ME)) : ME := fun σ k => mPairs ps σ fun l => match keysOf l with
  | some kvs => decide (kvs.length ≤ 15) && k (.dic (mergeT [] kvs))
  | none => false
inductive RTp (F : Hp) : List (V × V) → List (T × T) → Prop
  | nil : RTp F [] []
  | cons {v w : V} {x y : T} {r : List (V × V)} {s : List (T × T)} : RT F v x → RT F w y → RTp F r s → RTp F ((v, w) :: r) ((x, y) :: s)
theorem RTp.mono {F F' : Hp} (s : Le F F') : ∀ {l : List (V × V)} {m : List (T × T)}, RTp F l m → RTp F' l m
  | _, _, .nil => .nil
  | _, _, .cons a b r => .cons (a.mono s) (b.mono s) (RTp.mono s r)
theorem keysOf_ok {F : Hp} : ∀ {l : List (V × V)} {m : List (T × T)} {kts : List (Key × T)}, RTp F l m → keysOf m = some kts → ∃ kvs, l = kvs.map (fun kv => (kV kv.1, kv.2)) ∧ RTd F kvs kts
  | _, _, kts, .nil, e => by
    cases e
    exact ⟨[], rfl, .nil⟩
  | _, _, kts, .cons (x := x) (y := y) (s := s) a b r, e => by
    unfold keysOf at e
    split at e
    · rename_i j l ej el
      cases e
      obtain ⟨kvs, rfl, rd⟩ := keysOf_ok r el
      obtain rfl := keyT_rt a ej
      exact ⟨(j, _) :: kvs, rfl, .cons b rd⟩
    · cases e
theorem pairs_ok : ∀ {trs : List (TE × TE)} {mps : List (ME × ME)}, SP d trs mps → ∀ F H σ σ', Sts d F H σ' σ → ∀ k : List (T × T) → Bool, mPairs mps σ' k = true → ∀ Q : List (V × V) → Hp → Prop,
    (∀ l m F' H', Up d F H F' H' → RTp F' l m → k m = true → Q l H') → tPairs trs σ H Q
  | _, _, .nil, F, H, σ, σ', st, k, hk, Q, q => q [] [] F H (Up.refl st.wd) .nil hk
  | _, _, .cons ha hb hr, F, H, σ, σ', st, k, hk, Q, q => by
    refine ha F H σ σ' st _ hk _ fun v x F1 H1 u1 r1 h1 => ?_
    refine hb F1 H1 σ σ' (st.up u1) _ h1 _ fun w y F2 H2 u2 r2 h2 => ?_
    have u12 := u1.trans u2 st.wd
    refine pairs_ok hr F2 H2 σ σ' (st.up u12) _ h2 _ fun l m F3 H3 u3 r3 h3 => ?_
    exact q _ _ F3 H3 (u12.trans u3 st.wd) (.cons ((r1.mono u2.f).mono u3.f) (r2.mono u3.f) r3) h3
theorem o_disp {trs : List (TE × TE)} {mps : List (ME × ME)} (h : SP d trs mps) : SO d (tDisp trs) (mDisp mps) := by
  intro F H σ σ' st k hk Q q p hp
  have u0 := up_new (o := .dK []) st.wd hp
  have c := tape_nn st.wd hp
  refine pairs_ok h F _ σ σ' (st.up u0) _ hk _ fun l m F1 H1 u1 r1 h1 => ?_
  have hp1 : H1 p = some (.dK []) := u1.keep p _ c (nt_dK _) upd_same
  have np : F1 p = none := by rw [u1.fresh p (by rw [upd_same]; exact fun z => nomatch z)]; exact f_none st.wd hp
  split at h1
  · rename_i kts e
    rw [Bool.and_eq_true, decide_eq_true_eq] at h1
    obtain ⟨kvs, rfl, rd⟩ := keysOf_ok r1 e
    refine ⟨hp1, kvs, rfl, by rw [rd.len]; exact h1.1, ?_⟩
    exact q p _ F1 _ (up_put st.wd hp (u0.trans u1 st.wd) np hp1 (.dK _)) hp np (show OwnAt F1 (upd H1 p _) p (.dic (mergeT [] kts)) from ⟨_, upd_same, mergeT_rt .nil rd⟩) h1.2
  · cases h1
/-! max(.., default=..) -/
def mCKw (b : List T → List T → (T → Bool) → Bool) (m mk : MA) : ME := fun σ k => m σ fun xs => mk σ fun ys => b xs ys k
def bMaxD (xs ys : List T) (k : T → Bool) : Bool := match xs, ys with
  | [.lst ts], [y] => match tints ts with
    | some [] => k y
    | some (x :: l) => k (.int (maxI x l))
    | none => false
  | _, _ => false
theorem s_maxD {t tk : TA} {m mk : MA} (h : SA d t m) (hk : SA d tk mk) : SE d (tCKw (rMaxDf Cl.K) t tk) (mCKw bMaxD m mk) := by
  intro F H σ σ' st k hkk Q q
  refine h F H σ σ' st _ hkk _ fun vs xs F1 H1 u1 r1 h1 => ?_
  refine hk F1 H1 σ σ' (st.up u1) _ h1 _ fun ws ys F2 H2 u2 r2 h2 => ?_
  have u12 := u1.trans u2 st.wd
  unfold bMaxD at h2
  split at h2
  · obtain ⟨v, rfl, r⟩ := rts1 (r1.mono u2.f)
    obtain ⟨w, rfl, s⟩ := rts1 r2
    cases r with
    | lst f r =>
      split at h2
      · rename_i e
        exact ⟨_, [], w, rfl, rfl, by rw [← tints_ok r e]; exact rd_sql u2.wd f, (fun _ => q _ _ F2 H2 u12 s h2), fun m hm => (nomatch hm)⟩
      · rename_i x l e
        refine ⟨_, x :: l, w, rfl, rfl, by rw [← tints_ok r e]; exact rd_sql u2.wd f, (fun z => nomatch z), fun m hm g => ?_⟩
        rw [max_one hm g]
        exact q _ _ F2 H2 u12 (.int _) h2
      · cases h2
  · cases h2
/-! dict(pairs) -/
def pairsOf : List T → Option (List (Key × T))
  | [] => some []
  | .tup [x, y] :: r => match keyT x, pairsOf r with
    | some j, some l => some ((j, y) :: l)
    | _, _ => none
  | .tpl [x, y] :: r => match keyT x, pairsOf r with
    | some j, some l => some ((j, y) :: l)
    | _, _ => none
  | _ => none
theorem pairsOf_ok {F H : Hp} (w : Wd d F H) : ∀ {ts : List T} {vs : List V} {kts : List (Key × T)}, RTs F vs ts → pairsOf ts = some kts → ∃ (ps : List Addr) (kvs : List (Key × V)), vs = ps.map V.ref ∧ Paired (fun p kv => SqT Cl.K H p [kV kv.1, kv.2]) ps kvs ∧ RTd F kvs kts
  | [], _, _, r, e => by
    cases r
    cases e
    exact ⟨[], [], rfl, .nil, .nil⟩
  | t :: ts, _, kts, r, e => by
    cases r with
    | cons r1 r2 =>
      unfold pairsOf at e
      split at e
      · rename_i e0
        cases e0
      · rename_i x y r' e0
        cases e0
        split at e
        · rename_i j l ej el
          cases e
          obtain ⟨ps, kvs, rfl, pr, rd⟩ := pairsOf_ok w r2 el
          cases r1 with
          | tup f rr =>
            obtain ⟨v1, v2, rfl, q1, q2⟩ := rts2 rr
            obtain rfl := keyT_rt q1 ej
            exact ⟨_ :: ps, (j, v2) :: kvs, rfl, .cons (rd_sqt w f) pr, .cons q2 rd⟩
        · cases e
      · rename_i x y r' e0
        cases e0
        split at e
        · rename_i j l ej el
          cases e
          obtain ⟨ps, kvs, rfl, pr, rd⟩ := pairsOf_ok w r2 el
          cases r1 with
          | tpl f rr =>
            obtain ⟨v1, v2, rfl, q1, q2⟩ := rts2 rr
            obtain rfl := keyT_rt q1 ej
            exact ⟨_ :: ps, (j, v2) :: kvs, rfl, .cons (rd_sqp w f) pr, .cons q2 rd⟩
        · cases e
      · cases e
def rDictP (R : PySem.W.Frag) : List V → Hp → VK → Prop := fun xs H Q => ∃ (a : Addr) (ps : List Addr) (kvs : List (Key × V)), xs = [.ref a] ∧ SqL R H a (ps.map V.ref) ∧ Paired (fun p kv => SqT R H p [kV kv.1, kv.2]) ps kvs ∧
    ∀ p, H p = none → Q (.ref p) (upd H p (.dK (mergeK [] kvs)))
def bDictP : B1 := fun xs k => match xs with
  | [.lst ts] => match pairsOf ts with
    | some kts => k (.dic (mergeT [] kts))
    | none => false
  | _ => false
theorem bn_dictP : BN d (rDictP Cl.K) bDictP := by
  intro F H vs xs wd r k hk Q q
  unfold bDictP at hk
  split at hk
  · obtain ⟨v, rfl, r1⟩ := rts1 r
    split at hk
    · rename_i kts e
      cases r1 with
      | lst f r =>
        obtain ⟨ps, kvs, rfl, pr, rd⟩ := pairsOf_ok wd r e
        exact ⟨_, ps, kvs, rfl, rd_sql wd f, pr, fun p hp => q p _ F _ (up_new wd hp) hp (f_none wd hp) (show OwnAt F (upd H p _) p (.dic _) from ⟨_, upd_same, mergeT_rt .nil rd⟩) hk⟩
    · cases hk
  · cases hk
def bDictT : B1 := fun xs k => match xs with
  | [.tup ts] => match pairsOf ts with
    | some kts => k (.dic (mergeT [] kts))
    | none => false
  | _ => false
theorem bn_dictT : BN d (rDictT Cl.K) bDictT := by
  intro F H vs xs wd r k hk Q q
  unfold bDictT at hk
  split at hk
  · obtain ⟨v, rfl, r1⟩ := rts1 r
    split at hk
    · rename_i kts e
      cases r1 with
      | tup f r =>
        obtain ⟨ps, kvs, rfl, pr, rd⟩ := pairsOf_ok wd r e
        exact ⟨_, ps, kvs, rfl, rd_bare wd f, pr, fun p hp => q p _ F _ (up_new wd hp) hp (f_none wd hp) (show OwnAt F (upd H p _) p (.dic _) from ⟨_, upd_same, mergeT_rt .nil rd⟩) hk⟩
    · cases hk
  · cases hk
def rDictD : List V → Hp → VK → Prop := fun xs H Q => ∃ (a : Addr) (kvs : List (Key × V)), xs = [.ref a] ∧ Rd H a (.dK kvs) ∧ ∀ p, H p = none → Q (.ref p) (upd H p (.dK kvs))
def bDictD : B1 := fun xs k => match xs with
  | [.dic kts] => k (.dic kts)
  | _ => false
theorem bn_dictD : BN d rDictD bDictD := by
  intro F H vs xs wd r k hk Q q
  unfold bDictD at hk
  split at hk
  · obtain ⟨v, rfl, r1⟩ := rts1 r
    cases r1 with
    | dic f r => exact ⟨_, _, rfl, rd_dic wd f, fun p hp => q p _ F _ (up_new wd hp) hp (f_none wd hp) (show OwnAt F (upd H p _) p (.dic _) from ⟨_, upd_same, r⟩) hk⟩
  · cases hk
/-! list(d.values()); the dict must not be locked -/
theorem RTd.vals {F : Hp} : ∀ {kts : List (Key × T)} {kvs : List (Key × V)}, RTd F kvs kts → RTs F (kvs.map Prod.snd) (valsT kts)
  | [], _, r => by
    cases r
    exact .nil
  | (_, _) :: _, _, r => by
    cases r with
    | cons a b => exact .cons a (RTd.vals b)
def tListValsR (td : TE) : TE := fun σ H Q => td σ H fun x H1 => ∃ a kvs, x = V.ref a ∧ Rd H1 a (.dK kvs) ∧ ∀ l, H1 l = none → Q (.ref l) (upd H1 l (.lst (kvs.map Prod.snd)))
def mListVals (m : ME) : ME := fun σ k => m σ fun x => match x with
  | .dic kts => k (.lst (valsT kts))
  | _ => false
theorem o_listVals (h : SE d te me) : SO d (tListValsR te) (mListVals me) := by
  intro F H σ σ' st k hk Q q
  refine h F H σ σ' st _ hk _ fun v x F1 H1 u1 r1 h1 => ?_
  split at h1
  · cases r1 with
    | dic f r => exact ⟨_, _, rfl, rd_dic u1.wd f, fun l hl => q l _ F1 _ (u1.trans (up_new u1.wd hl) st.wd) (none_back u1 st.wd hl) (f_none u1.wd hl) (show OwnAt F1 (upd H1 l _) l (.lst _) from ⟨_, upd_same, r.vals⟩) h1⟩
  · cases h1
/-! dicts compared: alike -/
def rEqR (b : Bool) : R2 := fun x y H Q => ∃ p q ks ls, x = V.ref p ∧ y = V.ref q ∧ Rd H p (.dK ks) ∧ Rd H q (.dK ls) ∧ ks.length = ls.length ∧ (∀ e ∈ ks, valV ls e.1 = some e.2 ∧ flatB e.2 = true) ∧ Q (.bl b) H
def likeD (ks ls : List (Key × T)) : Bool := ks.length == ls.length && ks.all fun e => match sv e.2, getT ls e.1 with
  | some a, some u => match sv u with
    | some b => flatB a && eqSV b a
    | none => false
  | _, _ => false
def oEqDic (b : Bool) : O2 := fun x y k => match x, y with
  | .dic ks, .dic ls => likeD ks ls && k (.bl b)
  | _, _ => false
theorem likeD_ok {F : Hp} {ks ls : List (Key × T)} {us ws : List (Key × V)} (r : RTd F us ks) (s : RTd F ws ls) (h : likeD ks ls = true) : us.length = ws.length ∧ ∀ e ∈ us, valV ws e.1 = some e.2 ∧ flatB e.2 = true := by
  unfold likeD at h
  rw [Bool.and_eq_true, beq_iff_eq] at h
  refine ⟨by rw [r.len, s.len]; exact h.1, fun e he => ?_⟩
  obtain ⟨i, hi⟩ := List.getElem?_of_mem he
  obtain ⟨t, h1, h2⟩ := RTd.at' (k := e.1) (v := e.2) r hi
  have h3 := List.all_eq_true.mp h.2 _ (List.mem_of_getElem? h1)
  dsimp only at h3
  split at h3
  · rename_i a u ea eu
    split at h3
    · rename_i b eb
      rw [Bool.and_eq_true, eqSV_eq, decide_eq_true_eq] at h3
      have g := getT_rt (k := e.1) s
      rw [eu] at g
      obtain ⟨w, hw, rw_⟩ := g
      have e1 := sv_rt h2 ea
      have e2 := sv_rt rw_ eb
      refine ⟨?_, by rw [e1]; exact h3.1⟩
      rw [hw, e2, e1, h3.2]
    · cases h3
  · cases h3
theorem os_eqR {b : Bool} : OpS d (rEqR b) (oEqDic b) := by
  intro F H v w x y wd rx ry k hk Q q
  unfold oEqDic at hk
  split at hk
  · rw [Bool.and_eq_true] at hk
    cases rx with
    | dic f r =>
      cases ry with
      | dic g s =>
        obtain ⟨h1, h2⟩ := likeD_ok r s hk.1
        exact ⟨_, _, _, _, rfl, rfl, rd_dic wd f, rd_dic wd g, h1, h2, q _ _ F H (Up.refl wd) (.bl _) hk.2⟩
  · cases hk
end
section
omit [Cl] [Tt]
variable {X : Cx} {o : Expr} {p pos apos mpos : Pos} {td : TE}
theorem pe_listValsR (hc : X.calm = true) (hg : Gl X "list") (hm : X.mg "list" = none) (hb : bootBuiltins "list" = some (.type "list")) (hd : PE X o td) (hbase : attributeBase o "values" X.env (eval o X.env) = eval o X.env := by rfl) (hline : (apos.endLine == mpos.line) = true := by rfl)
    (na : starEach [Expr.Call (.Attribute o "values" apos) [] [] mpos] X.env = (false, eval (Expr.Call (.Attribute o "values" apos) [] [] mpos) X.env) :: starEach [] X.env := by rfl) :
    PE X (.Call (.Name "list" p) [.Call (.Attribute o "values" apos) [] [] mpos] [] pos) (tListValsR td) := by
  refine ⟨fun pins s σ H Q I h => ?_⟩
  refine Call_ (ld_blt I hg hm hb (PyProof.Rows.callWith_type1 (PyProof.Rows.args_cons (wpAny_Call_method0_late hbase hline (thn (hd.run pins s σ H _ I h) fun v s1 ⟨x, H1, I1, r1, a, kvs, ex, ha, q⟩ => ?_)) na) na))
  subst ex
  obtain rfl : v = Value.ref a := r1
  obtain ⟨_, hsys, vs, rel, dof⟩ := dk_rd I1.hok ha
  obtain ⟨ep, dat⟩ := dof.dictAt
  obtain ⟨ob, es, ho, ex, _⟩ := id dat
  refine ⟨"dict", "dict.values", PySem.F.plainAttrs_dict, PySem.F.slot_dict_values, PySem.F.type_dict_values, ⟨ob, ho, ex.1⟩, fun b e => ?_, Calls.callWith_builtin rfl (PySem.evalArgs_none ?_)⟩
  · cases e
    exact ⟨ob, ho, ex.2.1⟩
  refine call_meetsIn PySem.F.slot_dict_values ⟨ob, ho, ex.1⟩ PySem.F.entry_dict_values (PySem.F.args_dict_values_1 _) (meets_dict_values (mixKind X.prog X.w) a hsys) ⟨⟨vs, dof⟩, ?_⟩
  refine PyProof.Rows.args_nil ?_
  have up : ∀ b u, s1.heap.get? b = some u → (s1.heap.push { cls := .type "dict_values", data := .fields #[.ref a] }).get? b = some u := fun b u e => Heap.get?_push_of_some _ e
  have I2 : Inv X pins σ H1 { s1 with heap := s1.heap.push { cls := .type "dict_values", data := .fields #[.ref a] } } := I1.kept (t' := s1.toks) up
  have many : kvs.length = vs.length := Paired.length rel
  obtain ⟨hz, _⟩ := dk_rd I1.hok ha
  refine PySem.W.kdl_call (PySem.W.kdl_values (knd := mixKind X.prog X.w) (kvs := vs) (ep := ep)) (I1.ok.hd hc) ⟨⟨_, Heap.get?_push_size _ rfl, rfl, rfl⟩, dat.keep up⟩ (by rw [← many]; exact hz) fun h' tk acc c kept at_ its => ?_
  have vals : Vals (kvs.map Prod.snd) acc.toList := by
    refine vals_by (by have e : acc.size = vs.length := its.1; rw [List.length_map, many, ← e]; exact Array.length_toList.symm) fun i x u hx hu => ?_
    obtain ⟨k, hk⟩ := its.2 i u (by rw [← Array.getElem?_toList]; exact hu)
    obtain ⟨y, h1, h2⟩ := KV.at' rel hk
    rw [List.getElem?_map, h1] at hx
    cases hx
    exact h2
  exact ⟨.ref _, upd H1 _ (.lst (kvs.map Prod.snd)), I2.laid (t' := tk) kept (Nat.le_refl _) ⟨by rw [List.length_map]; exact hz, acc.toList, c, vals, by rw [Array.toArray_toList]; exact at_⟩, rfl, q _ (I2.hok.fresh (Nat.le_refl _))⟩
theorem op_eqR (hu : X.A.units < cLine) : OpR X (compareOp .Eq) (rEqR true) := by
  intro pins s σ H x y v u Q I rx ry h
  obtain ⟨m, n, ks, ls, rfl, rfl, em, en, many, each, q⟩ := h
  cases rx
  cases ry
  obtain ⟨_, y1, w1, r1, d1⟩ := dk_rd I.hok em
  obtain ⟨_, y2, w2, r2, d2⟩ := dk_rd I.hok en
  have len : w1.length = w2.length := by rw [← r1.length, ← r2.length]; exact many
  exact PySem.W.keq_eq (r := true) (knd := mixKind X.prog X.w) y1 y2 d1 d2 hu (fun _ => hits_all r2 r1 each) (fin_bl I q (by simp [len]))
theorem op_neR (hu : X.A.units < cLine) : OpR X (compareOp .NotEq) (rEqR false) := by
  intro pins s σ H x y v u Q I rx ry h
  obtain ⟨m, n, ks, ls, rfl, rfl, em, en, many, each, q⟩ := h
  cases rx
  cases ry
  obtain ⟨_, y1, w1, r1, d1⟩ := dk_rd I.hok em
  obtain ⟨_, y2, w2, r2, d2⟩ := dk_rd I.hok en
  have len : w1.length = w2.length := by rw [← r1.length, ← r2.length]; exact many
  exact PySem.W.keq_ne (r := true) (knd := mixKind X.prog X.w) y1 y2 d1 d2 hu (fun _ => hits_all r2 r1 each) (fin_bl I q (by simp [len]))
end
end Tr
namespace Tr
open PySem PySem.Spec PyProof.Rows L2 Tm
variable [Cl] [Tt]
def mYes : MT := fun _ k => k true
theorem t_yes' {d : Option Addr} : ST d tYes mYes := t_yes
def mNever : MS := fun _ _ => false
theorem z_never' {d : Option Addr} {pz : Bool} : SSt d pz tNever mNever := fun pn hp B Z bo F H σ σ' s _ k hk D e => by cases hk
def oIxL : O2 := fun x y k => match x with | .lst _ => oIx x y k | _ => false
def oIxT : O2 := fun x y k => match x with | .tup _ => oIx x y k | _ => false
theorem os_ixL' {d : Option Addr} : OpS d (rIxL Cl.K) oIxL := os_ixL
theorem os_ixT' {d : Option Addr} : OpS d (rIxT Cl.K) oIxT := os_ixT
def mMth (C n : Nat) (f : Fn) (ds : List T) (mn : Str) (me : ME) (m : MA) : ME := fun σ k => me σ fun x => match x with
  | .ins c fts => decide (c = C) && ((flds fts mn).isNone && m σ fun xs => decide ((x :: (xs ++ ds)).length = n) && f (x :: (xs ++ ds)) k)
  | _ => false
theorem s_mth {d : Option Addr} {te : TE} {me : ME} {C n : Nat} {f : Fn} {dvs : List V} {ds : List T} {E : XK} {t : TA} {m : MA} {mn : Str} (hd : ∀ F, RTs F dvs ds) (h : SE d te me) (ha : SA d t m) : SE d (tMeth (Cl.ad C) mn (spT n f) dvs E te t) (mMth C n f ds mn me m) :=
  s_meth hd (fun _ _ _ => trivial) h ha
theorem i_eitherV {d : Option Addr} {i : Nat} : SI d none (iEither Cl.K (tVar i)) (miE (mVar i)) := by
  intro F H σ σ' st lk k hk R q
  unfold miE mVar at hk
  split at hk
  · rename_i t e
    obtain ⟨v, h1, h2⟩ := st.at e
    dsimp only at hk
    split at hk
    · cases h2 with
      | lst f r => exact .inl ⟨_, h1, _, rfl, ⟨_, rd_sql st.wd f⟩, q _ _ F H (Up.refl st.wd) (wt_list f r) hk⟩
    · cases h2 with
      | tup f r => exact .inr ⟨_, h1, _, rfl, ⟨_, rd_sqt st.wd f⟩, q _ _ F H (Up.refl st.wd) (wt_tup f r) hk⟩
    · cases hk
  · cases hk
/-- what a class without fields of that name says of it -/
structure MakK (P : Program) (w : World) (K : PySem.W.Frag) (mg : Str → Option Value) (base : Heap) (k : Nat) (x : Str) (C : Addr) (n : Nat) (ks : List Str) (sp : Sp) : Prop where
  ex : ∃ (f : Addr) (fd : FuncData) (ps : List Str) (g : List Value → List Value → List Value), Mk K C f ∧ FnOk P w K mg base C8.CX0 k f fd ps sp ∧ mg x = some (.ref C) ∧ KBn K fd ps (n + 1) ks g (fun vs zs => vs ++ zs)
structure PrpOk (P : Program) (w : World) (K : PySem.W.Frag) (mg : Str → Option Value) (base : Heap) (k : Nat) (C : Addr) (f : Str) (sp : Sp) : Prop where
  ex : ∃ (p g : Addr) (fd : FuncData) (ps : List Str), Cls K C ∧ PropOf K C f p g ∧ FnOk P w K mg base C8.CX0 k g fd ps sp ∧ Binds K fd ps []
section
omit [Cl] [Tt]
variable {X : Cx} {k j n : Nat} {C : Addr} {x f : Str} {sp : Sp} {p pos : Pos} {e : Expr} {es : List Expr} {kws : List Keyword} {ks : List Str} {ta : TE} {t tk : TA}
theorem pe_mkK (c : MakK X.prog X.w X.K X.mg X.base k x C n ks sp) (hr : Room j X.A) (hk : k + 1 ≤ j) (hg : Gl X x) (ha : PA X (e :: es) t) (hkw : PK X kws tk)
    (hall : (backToKw pos (keywordEach kws X.env)).all (·.1.isSome) = true := by rfl) (hks : (backToKw pos (keywordEach kws X.env)).filterMap (·.1) = ks := by rfl) (hdb : (x == ("__debug__" : Str)) = false := by decide)
    (he : starEach (e :: es) X.env = (false, eval e X.env) :: starEach es X.env := by rfl) (hpl : ((backTo pos (starEach (e :: es) X.env)).any (·.1) || (backToKw pos (keywordEach kws X.env)).any (·.1.isNone)) = false := by rfl) :
    PE X (.Call (.Name x p) (e :: es) kws pos) (tMakeK C n ks.length sp (fun vs zs => vs ++ zs) C8.E0 t tk) := by
  obtain ⟨f, fd, ps, g, M, F, hm, b⟩ := c.ex
  exact pe_makeK M F (hr.mono hk) hg hm b C8.pass0 ha hkw hall hks hdb he hpl
theorem pe_pr (c : PrpOk X.prog X.w X.K X.mg X.base k C f sp) (hr : Room j X.A) (hk : k + 1 ≤ j) (he : PE X e ta) (hab : attributeBase e f X.env (eval e X.env) = eval e X.env) : PE X (.Attribute e f pos) (tProp C sp [] C8.E0 ta) := by
  obtain ⟨q, g, fd, ps, cl, hp, F, b⟩ := c.ex
  exact pe_prop he cl hp F (hr.mono hk) b .nil C8.pass0 hab
end
end Tr
set_option maxRecDepth 100000
set_option maxHeartbeats 4000000
/-! Trees: draws; a def by what it is worth; a law's own frame. -/
namespace Tr
open PySem PySem.Spec PyProof.Rows L2 Tm
variable [Cl] [Tt]
/-! draws -/
def mPick (m : MA) : ME := fun σ k => m σ fun xs => match xs with
  | [.tape, .int n] => decide (0 < n) && (decide (n < 1000000000) && (List.range n.toNat).all fun r => k (.int r))
  | _ => false
theorem s_pick {d : Option Addr} {t : TA} {m : MA} {E : XK} (h : SA d t m) : SE d (tCall spPick [] E t) (mPick m) := by
  intro F H σ σ' st k hk Q q
  refine h F H σ σ' st _ hk _ fun vs xs F1 H1 u1 r1 h1 => ?_
  split at h1
  · rename_i n
    rw [Bool.and_eq_true, Bool.and_eq_true, decide_eq_true_eq, decide_eq_true_eq] at h1
    obtain ⟨v, w, rfl, ra, rb⟩ := rts2 r1
    cases ra with
    | tape e =>
      rename_i a
      cases rb
      have ed : d = some a := st.wd.dt.trans e
      obtain ⟨⟨D, M, hd, tp⟩, nf⟩ := u1.wd.tape a ed
      refine ⟨a, D, M, n, rfl, hd, tp, h1.1, h1.2.1, fun r D' M' r0 r1 tp' => ?_⟩
      have w1 : Wd d F1 (upd H1 a (tapeO D' M')) := by
        refine ⟨u1.wd.dt, fun b o eb => ?_, fun x hx => ?_, tabs_put u1.wd.tabs hd (by unfold tapeO; exact .dK _), u1.wd.nt⟩
        · have ne : b ≠ a := fun z => by rw [z, nf] at eb; cases eb
          rcases u1.wd.sub b o eb with q | ⟨ob, kvs, ee, q⟩
          · exact .is (by rw [upd_ne ne]; exact q)
          · exact .lock ob kvs ee (by rw [upd_ne ne]; exact q)
        · rw [ed] at hx
          cases hx
          exact ⟨⟨D', M', upd_same, tp'⟩, nf⟩
      have u2 : Up d F1 H1 F1 (upd H1 a (tapeO D' M')) := ⟨Le.refl F1, fun b o n _ e => by
        have ne : b ≠ a := fun z => n (by rw [z]; exact ed)
        rw [upd_ne ne]
        exact e, there_upd, fun _ _ => rfl, w1⟩
      have hr := List.all_eq_true.mp h1.2.2 r.toNat (List.mem_range.mpr (by omega))
      have er : ((r.toNat : Nat) : Int) = r := by omega
      rw [er] at hr
      exact q _ _ F1 _ (u1.trans u2 st.wd) (.int r) hr
  · cases h1
/-! a def by what it is worth -/
omit [Cl] [Tt] in
def Ref (f g : Fn) : Prop := ∀ ts k, g ts k = true → ∃ k2, f ts k2 = true ∧ ∀ t, k2 t = true → k t = true
omit [Tt] in
theorem spT_ref {n : Nat} {f g : Fn} (h : Ref f g) {vs : List V} {H : Hp} {Q : VK} {E : XK} : spT n g vs H Q E → spT n f vs H Q E := by
  rintro ⟨I, F, ts, w, r, l, k, hk, q⟩
  obtain ⟨k2, h1, h2⟩ := h ts k hk
  exact ⟨I, F, ts, w, r, l, k2, h1, fun v t F' H' u r hk => q v t F' H' u r (h2 t hk)⟩
omit [Tt] in
theorem cal_ref {P : Program} {w : World} {mg : Str → Option Value} {base : Heap} {k n : Nat} {x : Str} {f g : Fn} (c : C8.Cal P w Cl.K mg base k x (spT n f) []) (h : Ref f g) : C8.Cal P w Cl.K mg base k x (spT n g) [] := by
  obtain ⟨a, fd, ps, ds, F, m, kp, b, v⟩ := c.ex
  exact ⟨a, fd, ps, ds, F.imp fun _ _ _ _ => spT_ref h, m, kp, b, v⟩
/-! the law's own frame -/
def isYes : T → Bool
  | .bl b => b
  | _ => false
omit [Cl] [Tt] in
theorem isYes_eq {t : T} (h : isYes t = true) : t = .bl true := by
  cases t with
  | bl b =>
    cases b with
    | true => rfl
    | false => cases h
  | _ => cases h
def spLaw (K : PySem.W.Frag) : Sp := fun vs H Q _ => ∃ (a : Addr) (ns : List Int), vs = [.ref a] ∧ SqL K H a (ns.map V.int) ∧ (∀ z ∈ ns, Builtin.Int.intBits z ≤ 1048576) ∧ ∀ H', Q (.bl true) H'
def kLoop (n : Nat) : Fl → Bool
  | .nx τ => τ.length == n
  | .ct τ => τ.length == n
  | .rt t => isYes t
  | .bk _ => false
  | .ro _ => false
def kEnd : Fl → Bool
  | .rt t => isYes t
  | _ => false
/-- the slots at a turn: the script, the turn, its tape -/
def sLoop (n i : Nat) : Sg := .un :: .val (.int i) :: .val .tape :: List.replicate (n - 3) .un
def sEnd (n : Nat) : Sg := List.replicate n .un
theorem un_all {d : Option Addr} {F H : Hp} : ∀ σ : L2.St, Paired (SlOk d F H) (List.replicate σ.length Sl.un) σ
  | [] => .nil
  | x :: σ => .cons (.un x) (un_all σ)
theorem yes_rt {F : Hp} {v : V} {t : T} (r : RT F v t) (h : isYes t = true) : v = .bl true := by
  cases t with
  | bl b =>
    cases r
    cases b with
    | true => rfl
    | false => cases h
  | _ => cases h
theorem pr_length {α β : Type} {R : α → β → Prop} {l : List α} {m : List β} (h : Paired R l m) : l.length = m.length := pr_len h
omit [Cl] [Tt] in
theorem sLoop_own {n i j : Nat} {x : T} (h : (sLoop n i)[j]? = some (Sl.own x)) : False := by
  unfold sLoop at h
  rcases List.mem_cons.mp (List.mem_of_getElem? h) with e | q
  · cases e
  rcases List.mem_cons.mp q with e | q
  · cases e
  rcases List.mem_cons.mp q with e | q
  · cases e
  · cases List.eq_of_mem_replicate q
omit [Tt] in
theorem law_frame {n : Nat} {tb tr : TS} {mb mr : MS} {a : Addr} {ns : List Int} {H : Hp} {D : Ends} {σ : L2.St} {E : XK} (hT : LamX.Tabs Cl.tb H)
    (hb : ∀ (I : Tt) (d : Option Addr), SSt d true tb mb) (hr : ∀ (I : Tt) (d : Option Addr), SSt d true tr mr)
    (eb : ∀ i, i < 3 → mb (sLoop n i) (kLoop n) = true) (er : mr (sEnd n) kEnd = true) (hn : 3 ≤ n) (hl : σ.length = n) (h0 : σ[0]? = some (some (.ref a)))
    (hS : SqL Cl.K H a (ns.map V.int)) (bits : ∀ z ∈ ns, Builtin.Int.intBits z ≤ 1048576) (q : ∀ H', D.rt (.bl true) H') :
    tSeq (tFor (iRng1 (tCons (tCB rMax2 (tCons (tC (.int 1)) (tCons (tCB rMin2 (tCons (tC (.int 3)) (tCons (tCB (rLenQ Cl.K) (tCons (tVar 0) tNil)) tNil))) tNil))) tNil)) (gName 1)
      (tSeq (tAsg (tCall (spTape Cl.K) [] E (tCons (tVar 0) (tCons (tVar 1) tNil))) (gName 2)) tb)) tr D σ H := by
  have end_ : ∀ (τ : L2.St) (H' : Hp), τ.length = n → LamX.Tabs Cl.tb H' → tr D τ H' := by
    intro τ H' hτ hT'
    letI I : Tt := ⟨none⟩
    refine hr I none none (fun z => nomatch z) (fun _ _ => True) (fun _ => True) ⟨fun _ _ _ _ _ _ _ => trivial, fun _ _ _ _ _ _ _ _ _ _ => trivial, fun _ _ _ _ _ _ _ _ _ _ => trivial, fun _ _ _ _ _ _ => trivial⟩ (fun _ => none) H' τ (sEnd n)
      ⟨trivial, ⟨⟨rfl, (fun _ _ e => nomatch e), (fun _ e => nomatch e), hT', (fun _ _ e => nomatch e)⟩, by unfold sEnd; rw [← hτ]; exact un_all τ, fun i j p r t u _ h1 => ?_⟩, fun _ _ _ _ _ => trivial, (fun _ z => nomatch z)⟩ noLk kEnd er D ⟨(fun _ _ _ _ _ z => nomatch z), (fun F1 H1 v t _ _ r y => ?_), (fun _ _ _ _ _ z => nomatch z), (fun _ _ _ _ _ z => nomatch z), (fun _ _ _ _ _ _ _ _ _ _ z => nomatch z)⟩
    · unfold sEnd at h1
      have := List.eq_of_mem_replicate (List.mem_of_getElem? h1)
      cases this
    · rw [yes_rt r y]
      exact q H1
  have top3 : ∀ k : Int, 0 ≤ k → 0 ≤ (if (if k < 3 then k else 3) > 1 then (if k < 3 then k else 3) else 1) ∧ (if (if k < 3 then k else 3) > 1 then (if k < 3 then k else 3) else 1) ≤ 3 := fun k hk => by
    by_cases c1 : k < 3
    · rw [if_pos c1]
      by_cases c2 : k > 1
      · rw [if_pos c2]
        omega
      · rw [if_neg c2]
        omega
    · rw [if_neg c1, if_pos (by omega : (3 : Int) > 1)]
      omega
  have t3 := top3 ((ns.map V.int).length : Int) (by omega)
  refine ⟨_, h0, a, _, rfl, .inl hS, 3, _, rfl, 1, _, rfl, _, rfl, by omega, by omega, ?_⟩
  refine for_range (lo := 0) (fun _ τ H' => τ.length = n ∧ τ[0]? = some (some (.ref a)) ∧ SqL Cl.K H' a (ns.map V.int) ∧ LamX.Tabs Cl.tb H') ⟨hl, h0, hS, hT⟩ ?_ fun τ H' p => end_ τ H' p.1 p.2.2.2
  rintro i τ Hc hi ⟨l1, p0, hS1, hT1⟩
  have hi3 : i < 3 := by omega
  match τ, l1, p0 with
  | [], l1, _ => rw [← l1] at hn; exact absurd hn (by simp)
  | [_], l1, _ => rw [← l1] at hn; exact absurd hn (by simp)
  | [_, _], l1, _ => rw [← l1] at hn; exact absurd hn (by simp)
  | x0 :: x1 :: x2 :: rest, l1, p0 =>
    have lr : rest.length = n - 3 := by
      simp only [List.length_cons] at l1
      omega
    have e0 : (0 : Int) + (i : Int) = (i : Int) := Int.zero_add _
    rw [e0]
    obtain rfl : x0 = some (.ref a) := Option.some.inj p0
    refine ⟨_, rfl, _, rfl, a, ns, (i : Int), rfl, hS1, bits, by omega, by omega, fun d Dd M hd tp => ?_⟩
    have na : a ≠ d ∨ ¬ ∃ o, Hc a = some o := by
      by_cases c : a = d
      · right
        rintro ⟨o, e⟩
        rw [c, hd] at e
        cases e
      · exact .inl c
    letI I : Tt := ⟨some d⟩
    have w0 : Wd (some d) (fun _ => none) (upd Hc d (tapeO Dd M)) := ⟨rfl, (fun _ _ e => nomatch e), fun x hx => by
      cases hx
      exact ⟨⟨Dd, M, upd_same, tp⟩, rfl⟩, tabs_new hT1 hd, (fun _ _ e => nomatch e)⟩
    have sq : ∀ H', (∀ b o, some d ≠ some b → Nt o → (upd Hc d (tapeO Dd M)) b = some o → H' b = some o) → SqL Cl.K H' a (ns.map V.int) := by
      intro H' k
      rcases hS1 with (h | ⟨ob, h⟩) | h
      · have ne : a ≠ d := fun z => by rw [z, hd] at h; cases h
        exact .inl (.inl (k a _ (fun z => ne (Option.some.inj z).symm) (nt_lst _) (by rw [upd_ne ne]; exact h)))
      · have ne : a ≠ d := fun z => by rw [z, hd] at h; cases h
        exact .inl (.inr ⟨ob, k a _ (fun z => ne (Option.some.inj z).symm) (nt_frz _ _) (by rw [upd_ne ne]; exact h)⟩)
      · exact .inr h
    refine hb I (some d) (some a) (fun z => nomatch z) (BB (some d) (fun _ => none) (upd Hc d (tapeO Dd M))) (fun p => (upd Hc d (tapeO Dd M)) p = none) (bok_base w0) (fun _ => none) (upd Hc d (tapeO Dd M)) _ (sLoop n i)
      ⟨⟨Le.refl _, fun _ _ _ _ e => e, fun _ e => e, fun _ _ => rfl⟩, ⟨w0, ?_, ?_⟩, ?_, ?_⟩ noLk (kLoop n) (eb i hi3) _ ⟨?_, ?_, ?_, ?_, (fun _ _ _ _ _ _ _ _ _ _ z => nomatch z)⟩
    · show Paired _ (Sl.un :: Sl.val (.int i) :: Sl.val .tape :: List.replicate (n - 3) Sl.un) (some (V.ref a) :: some (V.int i) :: some (V.ref d) :: rest)
      rw [← lr]
      exact .cons (.un _) (.cons (.val (.int _)) (.cons (.val (.tape rfl)) (un_all rest)))
    · intro j1 j2 p r t u _ h1
      exact (sLoop_own h1).elim
    · intro j t p h1
      exact (sLoop_own h1).elim
    · intro x hx
      cases hx
      rfl
    · intro F1 H1 ρ ρ' s1 h1
      have hlen : ρ'.length = n := beq_iff_eq.mp h1
      exact ⟨by rw [← pr_len s1.st.sl]; exact hlen, s1.pin a rfl, sq H1 s1.b.2.1, s1.st.wd.tabs⟩
    · intro F1 H1 v t _ _ r y
      rw [yes_rt r y]
      exact q H1
    · intro F1 H1 ρ ρ' s1 h1
      cases h1
    · intro F1 H1 ρ ρ' s1 h1
      have hlen : ρ'.length = n := beq_iff_eq.mp h1
      exact ⟨by rw [← pr_len s1.st.sl]; exact hlen, s1.pin a rfl, sq H1 s1.b.2.1, s1.st.wd.tabs⟩
end Tr
set_option maxRecDepth 100000
set_option maxHeartbeats 4000000
/-! Trees: what the top has written. -/
namespace Tr
open PySem PySem.Spec PyProof.Rows L2 Tm
theorem defx_of {K : PySem.W.Frag} {h : Heap} {mg : Str → Option Value} {x : Str} {st : Stmt} {f : Addr} {od an : Option Addr} {sl : Array (Option Value)} {oc kV dc pm cd ct : Value} (X : K.In h) (G : h.Ns mainGlobals mg)
    (a : PySem.W.nsIn K mainGlobals x = some (some (.ref f))) (l : K.lookup f = some ⟨oc, od, .func (PySem.W.fnOf x x (C8.fnArgs st) (C8.fnBody st) (C8.fnScope st) .none kV dc pm an cd ct), sl⟩) (c : PySem.W.codeIn K cd x = true) (k : PySem.W.keepIn K (.ref f) = true) : DefX K mg x st :=
  ⟨f, _, ⟨⟨oc, od, .none, kV, dc, pm, an, cd, ct, sl, rfl, l, c⟩, PySem.W.mg_of X G a, k⟩, rfl⟩
structure MthX (K : PySem.W.Frag) (C : Addr) (m qual : Str) (st : Stmt) : Prop where
  ex : ∃ g fd, Meth K C m g ∧ C8.Fun K m qual st g fd ∧ fd.defaults = .none
structure PrpX (K : PySem.W.Frag) (C : Addr) (m qual : Str) (st : Stmt) : Prop where
  ex : ∃ p g fd, PropOf K C m p g ∧ C8.Fun K m qual st g fd ∧ fd.defaults = .none
theorem mthx_of {K : PySem.W.Frag} {C : Addr} {m qual : Str} {st : Stmt} {f : Addr} {od an : Option Addr} {sl : Array (Option Value)} {oc kV dc pm cd ct : Value}
    (a : PySem.W.findIn K (.ref C) m = some (some (.ref f))) (i : PySem.W.isFn K (.ref f) = true) (l : K.lookup f = some ⟨oc, od, .func (PySem.W.fnOf m qual (C8.fnArgs st) (C8.fnBody st) (C8.fnScope st) .none kV dc pm an cd ct), sl⟩) (c : PySem.W.codeIn K cd qual = true) (k : PySem.W.keepIn K (.ref f) = true) : MthX K C m qual st :=
  ⟨f, _, ⟨a, i, k⟩, ⟨oc, od, .none, kV, dc, pm, an, cd, ct, sl, rfl, l, c⟩, rfl⟩
theorem prpx_of {K : PySem.W.Frag} {C : Addr} {m qual : Str} {st : Stmt} {p f : Addr} {od an : Option Addr} {sl : Array (Option Value)} {oc kV dc pm cd ct : Value} {rest : List Value}
    (a : PySem.W.findIn K (.ref C) m = some (some (.ref p))) (g : PySem.W.specialIn K (.ref p) "__get__" = some (some (.builtin "property.__get__"))) (t : PySem.W.takesIn K (.ref p) = some true) (r : PySem.W.recIn K p "property" = some (.ref f :: rest))
    (l : K.lookup f = some ⟨oc, od, .func (PySem.W.fnOf m qual (C8.fnArgs st) (C8.fnBody st) (C8.fnScope st) .none kV dc pm an cd ct), sl⟩) (c : PySem.W.codeIn K cd qual = true) : PrpX K C m qual st :=
  ⟨p, f, _, ⟨a, g, t, rest, r⟩, ⟨oc, od, .none, kV, dc, pm, an, cd, ct, sl, rfl, l, c⟩, rfl⟩
structure IniX (K : PySem.W.Frag) (C : Addr) (qual : Str) (st : Stmt) (kws : List (Str × V)) : Prop where
  ex : ∃ (f : Addr) (fd : FuncData), Mk K C f ∧ FunD K "__init__" qual (C8.fnArgs st) (C8.fnBody st) (C8.fnScope st) [] kws f fd
theorem ini1_of {K : PySem.W.Frag} {C f D e : Addr} {qual q : Str} {st : Stmt} {od an : Option Addr} {sl : Array (Option Value)} {oc dc pm cd ct : Value}
    (mk : PySem.W.makesIn K C = true) (a : PySem.W.findIn K (.ref C) "__init__" = some (some (.ref f))) (i : PySem.W.isFn K (.ref f) = true) (kC : PySem.W.keepIn K (.ref C) = true)
    (l : K.lookup f = some ⟨oc, od, .func (PySem.W.fnOf "__init__" qual (C8.fnArgs st) (C8.fnBody st) (C8.fnScope st) .none (.ref D) dc pm an cd ct), sl⟩) (c : PySem.W.codeIn K cd qual = true) (k : PySem.W.keepIn K (.ref f) = true)
    (nq : PySem.W.nsIn K D q = some (some (.ref e))) : IniX K C qual st [(q, .ref e)] :=
  ⟨f, _, ⟨mk, a, i, kC⟩, ⟨⟨oc, od, .none, .ref D, dc, pm, an, cd, ct, sl, rfl, l, c, .inl ⟨rfl, rfl⟩, .inr ⟨D, rfl, fun p hp => by
    rw [List.mem_singleton] at hp
    rw [hp]
    exact ⟨.ref e, nq, rfl⟩⟩⟩, k⟩⟩
theorem emp_of {K : PySem.W.Frag} {e : Addr} {sl : Array (Option Value)} {n : Nat} (le : K.lookup e = some ⟨.type "tuple", none, .seq #[] n, sl⟩) : ∃ (o : Obj) (n : Nat), K.lookup e = some o ∧ o.cls = .type "tuple" ∧ o.data = .seq #[] n ∧ o.dict = none :=
  ⟨_, n, le, rfl, rfl, rfl⟩
theorem cls_of {K : PySem.W.Frag} {C : Addr} (pg : PySem.W.plainGet K C Str.empty = true) (hd : PySem.W.hasDictIn K C = true) (po : PySem.W.plainOver K C = true) (sa : PySem.W.findIn K (.ref C) "__setattr__" = some (some (.builtin "object.__setattr__"))) : Cls K C := ⟨pg, hd, po, sa⟩
theorem na_of {K : PySem.W.Frag} {C : Addr} {f : Str} (h : PySem.W.findIn K (.ref C) f = some none) : NoAttr K C f := h
theorem bl_of {K : PySem.W.Frag} {h : Heap} {mg : Str → Option Value} (X : K.In h) (G : h.Ns mainGlobals mg) (z_len : PySem.W.nsIn K mainGlobals "len" = some none) (z_range : PySem.W.nsIn K mainGlobals "range" = some none) (z_int : PySem.W.nsIn K mainGlobals "int" = some none) (z_str : PySem.W.nsIn K mainGlobals "str" = some none) (z_bool : PySem.W.nsIn K mainGlobals "bool" = some none) (z_list : PySem.W.nsIn K mainGlobals "list" = some none) (z_tuple : PySem.W.nsIn K mainGlobals "tuple" = some none) (z_dict : PySem.W.nsIn K mainGlobals "dict" = some none) (z_set : PySem.W.nsIn K mainGlobals "set" = some none) (z_max : PySem.W.nsIn K mainGlobals "max" = some none) (z_min : PySem.W.nsIn K mainGlobals "min" = some none) (z_all : PySem.W.nsIn K mainGlobals "all" = some none) (z_sorted : PySem.W.nsIn K mainGlobals "sorted" = some none) (z_isinstance : PySem.W.nsIn K mainGlobals "isinstance" = some none) (z_enumerate : PySem.W.nsIn K mainGlobals "enumerate" = some none) (z_repr : PySem.W.nsIn K mainGlobals "repr" = some none) (z_sum : PySem.W.nsIn K mainGlobals "sum" = some none) (z_any : PySem.W.nsIn K mainGlobals "any" = some none) (z_zip : PySem.W.nsIn K mainGlobals "zip" = some none) (z_abs : PySem.W.nsIn K mainGlobals "abs" = some none) (z_type : PySem.W.nsIn K mainGlobals "type" = some none) : Bl mg := ⟨PySem.W.mg_none_of X G z_len, PySem.W.mg_none_of X G z_range, PySem.W.mg_none_of X G z_int, PySem.W.mg_none_of X G z_str, PySem.W.mg_none_of X G z_bool, PySem.W.mg_none_of X G z_list, PySem.W.mg_none_of X G z_tuple, PySem.W.mg_none_of X G z_dict, PySem.W.mg_none_of X G z_set, PySem.W.mg_none_of X G z_max, PySem.W.mg_none_of X G z_min, PySem.W.mg_none_of X G z_all, PySem.W.mg_none_of X G z_sorted, PySem.W.mg_none_of X G z_isinstance, PySem.W.mg_none_of X G z_enumerate, PySem.W.mg_none_of X G z_repr, PySem.W.mg_none_of X G z_sum, PySem.W.mg_none_of X G z_any, PySem.W.mg_none_of X G z_zip, PySem.W.mg_none_of X G z_abs, PySem.W.mg_none_of X G z_type⟩
end Tr
set_option maxRecDepth 100000
set_option maxHeartbeats 400000
/-! Methods with a default for a word argument. -/
namespace Tr
open PySem PySem.Spec PyProof.Rows L2 Tm
structure MthK (K : PySem.W.Frag) (C : Addr) (m qual : Str) (st : Stmt) (kws : List (Str × V)) : Prop where
  ex : ∃ g fd, Meth K C m g ∧ C8.Fun K m qual st g fd ∧ FunD K m qual (C8.fnArgs st) (C8.fnBody st) (C8.fnScope st) [] kws g fd
theorem mthk_of {K : PySem.W.Frag} {C f D : Addr} {m qual q : Str} {n : Int} {tk : Tok} {st : Stmt} {od an : Option Addr} {sl : Array (Option Value)} {oc dc pm cd ct : Value}
    (a : PySem.W.findIn K (.ref C) m = some (some (.ref f))) (i : PySem.W.isFn K (.ref f) = true) (k : PySem.W.keepIn K (.ref f) = true)
    (l : K.lookup f = some ⟨oc, od, .func (PySem.W.fnOf m qual (C8.fnArgs st) (C8.fnBody st) (C8.fnScope st) .none (.ref D) dc pm an cd ct), sl⟩) (c : PySem.W.codeIn K cd qual = true)
    (nq : PySem.W.nsIn K D q = some (some (.int n tk))) : MthK K C m qual st [(q, .int n)] :=
  ⟨f, _, ⟨a, i, k⟩, ⟨oc, od, .none, .ref D, dc, pm, an, cd, ct, sl, rfl, l, c⟩, ⟨⟨oc, od, .none, .ref D, dc, pm, an, cd, ct, sl, rfl, l, c, .inl ⟨rfl, rfl⟩, .inr ⟨D, rfl, fun p hp => by
    rw [List.mem_singleton] at hp
    rw [hp]
    exact ⟨.int n tk, nq, by first | rfl | exact ⟨tk, rfl⟩ | trace_state⟩⟩⟩, k⟩⟩
theorem kit_self {K : PySem.W.Frag} {C : Addr} : PySem.W.kitOne K (.ref C) (.ref C) = some true := by
  unfold PySem.W.kitOne
  exact if_pos (by first | exact beq_self_eq_true _ | simp | rfl)
end Tr
namespace Tr
open PySem PySem.Spec PyProof.Rows L2 Tm
/-- an __init__ without defaults -/
structure IniN (K : PySem.W.Frag) (C : Addr) (qual : Str) (st : Stmt) : Prop where
  ex : ∃ (f : Addr) (fd : FuncData), Mk K C f ∧ FunD K "__init__" qual (C8.fnArgs st) (C8.fnBody st) (C8.fnScope st) [] [] f fd ∧ C8.Fun K "__init__" qual st f fd ∧ fd.defaults = .none
theorem ini0_of {K : PySem.W.Frag} {C f : Addr} {qual : Str} {st : Stmt} {od an : Option Addr} {sl : Array (Option Value)} {oc kV dc pm cd ct : Value}
    (mk : PySem.W.makesIn K C = true) (a : PySem.W.findIn K (.ref C) "__init__" = some (some (.ref f))) (i : PySem.W.isFn K (.ref f) = true) (kC : PySem.W.keepIn K (.ref C) = true)
    (l : K.lookup f = some ⟨oc, od, .func (PySem.W.fnOf "__init__" qual (C8.fnArgs st) (C8.fnBody st) (C8.fnScope st) .none kV dc pm an cd ct), sl⟩) (c : PySem.W.codeIn K cd qual = true) (k : PySem.W.keepIn K (.ref f) = true) : IniN K C qual st :=
  ⟨f, _, ⟨mk, a, i, kC⟩, ⟨⟨oc, od, .none, kV, dc, pm, an, cd, ct, sl, rfl, l, c, .inl ⟨rfl, rfl⟩, .inl rfl⟩, k⟩, ⟨oc, od, .none, kV, dc, pm, an, cd, ct, sl, rfl, l, c⟩, rfl⟩
/-- an own class's + or | -/
structure BinX (K : PySem.W.Frag) (C : Addr) (m qual : Str) (st : Stmt) : Prop where
  ex : ∃ (g : Addr) (fd : FuncData), PySem.W.selfFirst K C = true ∧ PySem.W.findIn K (.ref C) m = some (some (.ref g)) ∧ PySem.W.isFn K (.ref g) = true ∧ C8.Fun K m qual st g fd ∧ fd.defaults = .none
theorem binx_of {K : PySem.W.Frag} {C : Addr} {m qual : Str} {st : Stmt} {f : Addr} {od an : Option Addr} {sl : Array (Option Value)} {oc kV dc pm cd ct : Value} (s : PySem.W.selfFirst K C = true)
    (a : PySem.W.findIn K (.ref C) m = some (some (.ref f))) (i : PySem.W.isFn K (.ref f) = true) (l : K.lookup f = some ⟨oc, od, .func (PySem.W.fnOf m qual (C8.fnArgs st) (C8.fnBody st) (C8.fnScope st) .none kV dc pm an cd ct), sl⟩) (c : PySem.W.codeIn K cd qual = true) : BinX K C m qual st :=
  ⟨f, _, s, a, i, ⟨oc, od, .none, kV, dc, pm, an, cd, ct, sl, rfl, l, c⟩, rfl⟩
end Tr
set_option maxRecDepth 100000
set_option maxHeartbeats 4000000
/-! Trees: items taken out of, put into lists of one's own. -/
namespace Tr
open PySem PySem.Spec PyProof.Rows L2 Tm
variable [Cl] [Tt]
section
variable {d pn : Option Addr} {pz : Bool} {ta tb tc te tv : TE} {ma mb mc me mv : ME} {B : Hp → Hp → Prop} {Z : Addr → Prop} {F H : Hp} {σ : L2.St} {σ' : Sg}
theorem RTs.erase {F : Hp} : ∀ {vs : List V} {ts : List T} (n : Nat), RTs F vs ts → RTs F (vs.eraseIdx n) (ts.eraseIdx n)
  | _, [], n, h => by cases h; exact .nil
  | _, _ :: _, 0, h => by
    cases h with
    | cons a b => exact b
  | _, _ :: _, n + 1, h => by
    cases h with
    | cons a b => exact .cons a (RTs.erase n b)
/-- y.pop(e): what is taken, what is left -/
def popT (us : List T) (n : Int) : Option (T × List T) := if -(2 ^ 63) ≤ n ∧ n < 2 ^ 63 then match seqIndex? n us.length with
    | some q => match us[q]? with
      | some y => some (y, us.eraseIdx q)
      | none => none
    | none => none
  else none
theorem popT_rt {vs : List V} {us : List T} {n : Int} {y : T} {r : List T} (h : popT us n = some (y, r)) (rt : RTs F vs us) : ∃ q v, -(2 ^ 63) ≤ n ∧ n < 2 ^ 63 ∧ seqIndex? n vs.length = some q ∧ vs[q]? = some v ∧ RT F v y ∧ RTs F (vs.eraseIdx q) r := by
  unfold popT at h
  split at h
  · rename_i c
    split at h
    · rename_i q eq
      split at h
      · rename_i y' ey
        cases h
        obtain ⟨v, h1, h2⟩ := rt.at ey
        exact ⟨q, v, c.1, c.2, by rw [rt.len]; exact eq, h1, h2, rt.erase q⟩
      · cases h
    · cases h
  · cases h
def mAppendPop (i j : Nat) (m : ME) : MS := fun σ k => match σ[i]? with
  | some (.own (.lst ts)) => match σ[j]? with
    | some (.own (.lst us)) => decide (i ≠ j) && m σ fun x => match x with
      | .int n => match popT us n with
        | some (y, r) => decide (ts.length < 16777216) && k (.nx ((σ.set j (.own (.lst r))).set i (.own (.lst (ts ++ [y])))))
        | none => false
      | _ => false
    | _ => false
  | _ => false
theorem z_appendPop {i j : Nat} (h : SE d te me) : SSt d pz (tDrop (tBM Cl.K "list" rAppend (tVar i) (tCons (tBM Cl.K "list" rPopAt (tVar j) (tCons te tNil)) tNil))) (mAppendPop i j me) := by
  intro pn hp B Z bo F H σ σ' s _ k hk D e
  unfold mAppendPop at hk
  split at hk
  · rename_i ts ei
    split at hk
    · rename_i us ej
      rw [Bool.and_eq_true, decide_eq_true_eq] at hk
      obtain ⟨nij, hk⟩ := hk
      obtain ⟨p, ep, o0, _, _⟩ := s.st.ownAt ei
      obtain ⟨vs0, hh0, _⟩ := o0
      obtain ⟨r, er, o1, _, _⟩ := s.st.ownAt ej
      obtain ⟨vs1, hh1, _⟩ := o1
      have npr : p ≠ r := s.st.dj i j p r _ _ nij ei ej ep er
      refine ⟨_, ep, .inl ⟨rfl, _, .inl (.inl hh0)⟩, _, er, .inl ⟨rfl, _, .inl (.inl hh1)⟩, ?_⟩
      refine h F H σ σ' s.st _ hk _ fun v x F1 H1 u1 r1 h1 => ?_
      have s1 := s.up bo u1
      split at h1
      · rename_i n
        cases r1
        split at h1
        · rename_i y rest ey
          rw [Bool.and_eq_true, decide_eq_true_eq] at h1
          obtain ⟨r', er', ow, nfr, cr⟩ := s1.st.ownAt ej
          rw [er] at er'
          cases er'
          obtain ⟨ws, hw, rw_⟩ := ow
          obtain ⟨q, v, b1, b2, sq, hv, rv, re⟩ := popT_rt ey rw_
          refine ⟨r, ws, n, q, v, rfl, rfl, hw, b1, b2, sq, hv, ?_⟩
          have s2 := ss_put (y := .lst rest) (o := .lst (ws.eraseIdx q)) bo s1 ej er ⟨_, upd_same, re⟩ nfr cr (by rw [hw]; exact fun z => nomatch z)
          have ei2 : (σ'.set j (Sl.own (.lst rest)))[i]? = some (Sl.own (.lst ts)) := by rw [List.getElem?_set_ne (Ne.symm nij)]; exact ei
          obtain ⟨p', ep', op, nfp, cp⟩ := s2.st.ownAt ei2
          rw [ep] at ep'
          cases ep'
          obtain ⟨xs, hx, rx⟩ := op
          refine ⟨p, xs, v, rfl, rfl, hx, by rw [rx.len, sizeLine_eq]; exact h1.1, ?_⟩
          exact e.nx F1 _ σ _ (ss_put bo s2 ei2 ep (show OwnAt F1 (upd _ p _) p (.lst (ts ++ [y])) from ⟨_, upd_same, rx.snoc rv⟩) nfp cp (by rw [hx]; exact fun z => nomatch z)) h1.2
        · cases h1
      · cases h1
    · cases hk
  · cases hk
/-- x = y.pop(e) -/
def mAsgPop (i j : Nat) (m : ME) : MS := fun σ k => match σ[j]? with
  | some (.own (.lst us)) => decide (i ≠ j) && m σ fun x => match x with
    | .int n => match popT us n with
      | some (y, r) => k (.nx ((σ.set j (.own (.lst r))).set i (.val y)))
      | none => false
    | _ => false
  | _ => false
theorem z_asgPop {i j : Nat} (h : SE d te me) (hz : pz = false ∨ i ≠ 0) : SSt d pz (tAsg (tBM Cl.K "list" rPopAt (tVar j) (tCons te tNil)) (gName i)) (mAsgPop i j me) := by
  intro pn hp B Z bo F H σ σ' s _ k hk D e
  unfold mAsgPop at hk
  split at hk
  · rename_i us ej
    rw [Bool.and_eq_true, decide_eq_true_eq] at hk
    obtain ⟨nij, hk⟩ := hk
    obtain ⟨r, er, o1, _, _⟩ := s.st.ownAt ej
    obtain ⟨vs1, hh1, _⟩ := o1
    refine ⟨_, er, .inl ⟨rfl, _, .inl (.inl hh1)⟩, ?_⟩
    refine h F H σ σ' s.st _ hk _ fun v x F1 H1 u1 r1 h1 => ?_
    have s1 := s.up bo u1
    split at h1
    · rename_i n
      cases r1
      split at h1
      · rename_i y rest ey
        obtain ⟨r', er', ow, nfr, cr⟩ := s1.st.ownAt ej
        rw [er] at er'
        cases er'
        obtain ⟨ws, hw, rw_⟩ := ow
        obtain ⟨q, v, b1, b2, sq, hv, rv, re⟩ := popT_rt ey rw_
        refine ⟨r, ws, n, q, v, rfl, rfl, hw, b1, b2, sq, hv, ?_⟩
        have s2 := ss_put (y := .lst rest) (o := .lst (ws.eraseIdx q)) bo s1 ej er ⟨_, upd_same, re⟩ nfr cr (by rw [hw]; exact fun z => nomatch z)
        refine e.nx F1 _ _ _ ⟨s2.b, s2.st.setVal i rv, fun l t p a b => ?_, pin_set s2 hz hp⟩ h1
        obtain ⟨a1, b1⟩ := ownLe_set (s := .val y) (fun _ z => nomatch z) l t p a b
        exact s2.oz l t p a1 b1
      · cases h1
    · cases h1
  · cases hk
/-- xs[i] = e -/
def mSetL (i : Nat) (mv mk : ME) : MS := fun σ k => mv σ fun v => match σ[i]? with
  | some (.own (.lst ts)) => mk σ fun y => match y with
    | .int n => match ixN ts.length n with
      | some j => k (.nx (σ.set i (.own (.lst (ts.set j v)))))
      | none => false
    | _ => false
  | _ => false
theorem z_setL {i : Nat} (hv : SE d tv mv) (hk : SE d tb mb) : SSt d pz (tAsg tv (gSub (tVar i) tb rSetL)) (mSetL i mv mb) := by
  intro pn hp B Z bo F H σ σ' s _ k hkk D e
  refine hv F H σ σ' s.st _ hkk _ fun v x F1 H1 u1 r1 h1 => ?_
  have s1 := s.up bo u1
  split at h1
  · rename_i ts ei
    obtain ⟨p, ep, _, _, _⟩ := s1.st.ownAt ei
    refine ⟨_, ep, hk F1 H1 σ σ' s1.st _ h1 _ fun w y F2 H2 u2 r2 h2 => ?_⟩
    have s2 := s1.up bo u2
    split at h2
    · rename_i n
      cases r2
      split at h2
      · rename_i j ej
        obtain ⟨p', ep', o, nf, c⟩ := s2.st.ownAt ei
        rw [ep] at ep'
        cases ep'
        obtain ⟨ws, hh, rr⟩ := o
        refine ⟨p, ws, n, j, rfl, rfl, hh, by rw [rr.len]; exact ej, ?_⟩
        exact e.nx F2 _ σ _ (ss_put bo s2 ei ep (show OwnAt F2 (upd H2 p _) p (.lst (ts.set j x)) from ⟨_, upd_same, rr.setN j (r1.mono u2.f)⟩) nf c (by rw [hh]; exact fun z => nomatch z)) h2
      · cases h2
    · cases h2
  · cases h1
end
end Tr
namespace Tr
open PySem PySem.Spec PyProof.Rows L2 Tm
variable [Cl] [Tt]
section
variable {d pn : Option Addr} {pz : Bool} {ta tb : TE} {ma mb : ME}
/-! a, b = new, old -/
def mParOV (i j : Nat) (ma mb : ME) : MS := fun σ k => ma σ fun x => mb σ fun y => k (.nx ((σ.set i (.own x)).set j (.val y)))
def mParVO (i j : Nat) (ma mb : ME) : MS := fun σ k => ma σ fun x => mb σ fun y => k (.nx ((σ.set i (.val x)).set j (.own y)))
theorem z_parOV {i j : Nat} (ha : SO d ta ma) (hb : SE d tb mb) (hz : pz = false ∨ (i ≠ 0 ∧ j ≠ 0)) (hij : i ≠ j) : SSt d pz (tPar i j (tCons ta (tCons tb tNil))) (mParOV i j ma mb) := by
  intro pn hp B Z bo F H σ σ' s _ k hk D e
  refine ha F H σ σ' s.st _ hk _ fun p x F1 H1 u1 n1 n2 o h1 => ?_
  have s1 := s.up bo u1
  refine hb F1 H1 σ σ' s1.st _ h1 _ fun w y F2 H2 u2 r2 h2 => ?_
  have s2 := s1.up bo u2
  have c := tape_nn s.st.wd n1
  obtain ⟨ob, hp1⟩ := o.some
  have o' : OwnAt F2 H2 p x := o.mono u2.f (by rw [hp1, u2.keep p ob c (o.nt hp1) hp1])
  have nf' : F2 p = none := by rw [u2.fresh p (by rw [hp1]; exact fun z => nomatch z)]; exact n2
  have no1 := noOwn_new s.st n1
  have st3 := sts_own (i := i) s2.st o' nf' c fun j t q _ a b => no1 j t q a b
  refine ⟨.ref p, w, rfl, e.nx F2 H2 _ _ ⟨s2.b, st3.setVal j r2, fun l t q a b => ?_, fun a ha => ?_⟩ h2⟩
  · obtain ⟨a1, b1⟩ := ownLe_set (s := .val y) (fun _ z => nomatch z) l t q a b
    exact oz_own s2.oz (bo.new F H p s.b s.st.wd n1) l t q a1 b1
  · rcases hz with z | ⟨z1, z2⟩
    · rw [hp z] at ha
      cases ha
    · rw [List.getElem?_set_ne z2, List.getElem?_set_ne z1]
      exact s2.pin a ha
theorem z_parVO {i j : Nat} (ha : SE d ta ma) (hb : SO d tb mb) (hz : pz = false ∨ (i ≠ 0 ∧ j ≠ 0)) (hij : i ≠ j) : SSt d pz (tPar i j (tCons ta (tCons tb tNil))) (mParVO i j ma mb) := by
  intro pn hp B Z bo F H σ σ' s _ k hk D e
  refine ha F H σ σ' s.st _ hk _ fun w x F1 H1 u1 r1 h1 => ?_
  have s1 := s.up bo u1
  refine hb F1 H1 σ σ' s1.st _ h1 _ fun p y F2 H2 u2 m1 m2 o2 h2 => ?_
  have s2 := s1.up bo u2
  have c2 := tape_nn s1.st.wd m1
  have no2 := noOwn_new s1.st m1
  have st3 := s2.st.setVal i (r1.mono u2.f)
  have st4 := sts_own (i := j) st3 o2 m2 c2 fun l t q nl a b => by
    obtain ⟨a1, b1⟩ := ownLe_set (s := .val x) (fun _ z => nomatch z) l t q a b
    exact no2 l t q a1 b1
  refine ⟨w, .ref p, rfl, e.nx F2 H2 _ _ ⟨s2.b, st4, oz_own (fun l t q a b => ?_) (bo.new F1 H1 p s1.b s1.st.wd m1), fun a ha => ?_⟩ h2⟩
  · obtain ⟨a1, b1⟩ := ownLe_set (s := .val x) (fun _ z => nomatch z) l t q a b
    exact s2.oz l t q a1 b1
  · rcases hz with z | ⟨z1, z2⟩
    · rw [hp z] at ha
      cases ha
    · rw [List.getElem?_set_ne z2, List.getElem?_set_ne z1]
      exact s2.pin a ha
end
end Tr
set_option maxRecDepth 100000
set_option maxHeartbeats 4000000
/-! Trees: == of instances by the class's own def; isinstance of own classes. -/
namespace Tr
open PySem PySem.Spec PyProof.Rows L2 Tm
variable [Cl] [Tt]
section
omit [Cl] [Tt]
variable {X : Cx}
/-- both of the class at C: what its own == says -/
def rOwnEq (C : Addr) (sp : Sp) : R2 := fun x y H Q => ∃ a b dx dy fs gs, x = V.ref a ∧ y = V.ref b ∧ H a = some (.ins C dx fs) ∧ H b = some (.ins C dy gs) ∧ sp [.ref a, .ref b] H (fun v H' => ∃ r, v = .bl r ∧ Q (.bl r) H') C8.E0
structure EqM (P : Program) (w : World) (K : PySem.W.Frag) (mg : Str → Option Value) (base : Heap) (k : Nat) (C : Addr) (sp : Sp) : Prop where
  ex : ∃ (f : Addr) (fd : FuncData) (ps : List Str), FnOk P w K mg base C8.CX0 k f fd ps sp ∧ PySem.W.findIn K (.ref C) "__eq__" = some (some (.ref f)) ∧ PySem.W.isFn K (.ref f) = true ∧ Binds K fd ps []
theorem op_eqOwn {j k : Nat} {C : Addr} {sp : Sp} (M : EqM X.prog X.w X.K X.mg X.base k C sp) (room : Room j X.A) (le : k ≤ j) : OpR X (compareOp .Eq) (rOwnEq C sp) := by
  intro pins s σ H x y v u Q I rx ry h
  obtain ⟨f, fd, ps, F, isEq, isF, bind⟩ := M.ex
  obtain ⟨a, b, dx, dy, fs, gs, rfl, rfl, h1, h2, told⟩ := h
  cases rx
  cases ry
  show wpAny (model X.prog X.w) X.A (richCompare .Eq (.ref a) (.ref b)) _ _ s
  obtain ⟨m1, O1, _⟩ := ins_get I.hok h1
  obtain ⟨m2, O2, _⟩ := ins_get I.hok h2
  obtain ⟨o1, L1, _⟩ := O1.look
  obtain ⟨o2, L2', _⟩ := O2.look
  obtain ⟨m, fr⟩ := I.fr
  refine PySem.W.cmp_K (tb := .ref C) (op := .Eq) room.units0 fr I.ok.mod.kin L1 L2'.type (by simp [PySem.W.notFirst]) isEq isF ?_
  have two : Vals [V.ref a, V.ref b] [Value.ref a, Value.ref b] := .cons rfl (.cons rfl .nil)
  have many := F.len _ _ _ _ told
  refine wpAny_call (codeAny_mono (F.run X.A X.stack s H ⟨[.ref a, .ref b], []⟩ [.ref a, .ref b] [.ref a, .ref b] _ C8.E0 (room.mono le) I.env0 (by
    have q := bind s [.ref a, .ref b] I.kIn (by simpa using many)
    simpa using q) two told) fun r s' got => ?_)
  cases r with
  | error e => exact C8.pass0 (E := C8.E0) pins σ H s e s' I got
  | ok flow =>
    cases flow with
    | next => exact False.elim got
    | brk => exact False.elim got
    | cont => exact False.elim got
    | ret w =>
      obtain ⟨z, H', I', rz, r, ez, q⟩ := I.after got
      subst ez
      cases rz
      cases r with
      | true => exact ⟨.bl true, H', I', rfl, q⟩
      | false => exact ⟨.bl false, H', I', rfl, q⟩
end
section
variable {d : Option Addr}
def oOwnEq (C : Nat) (f : Fn) : O2 := fun x y k => match x, y with
  | .ins c _, .ins c' _ => decide (c = C) && (decide (c' = C) && f [x, y] fun z => match z with
    | .bl _ => k z
    | _ => false)
  | _, _ => false
theorem os_ownEq {C : Nat} {f : Fn} : OpS d (rOwnEq (Cl.ad C) (spT 2 f)) (oOwnEq C f) := by
  intro F H v w x y wd rx ry k hk Q q
  unfold oOwnEq at hk
  split at hk
  · rename_i c fs c' gs
    rw [Bool.and_eq_true, Bool.and_eq_true, decide_eq_true_eq, decide_eq_true_eq] at hk
    obtain ⟨rfl, e2, hk⟩ := hk
    subst e2
    have ed := wd.dt
    subst ed
    cases rx with
    | ins e1 r1 =>
      cases ry with
      | ins e2 r2 =>
        refine ⟨_, _, _, _, _, _, rfl, rfl, rd_ins wd e1, rd_ins wd e2, inferInstance, F, _, wd, .cons (.ins e1 r1) (.cons (.ins e2 r2) .nil), rfl, _, hk, fun v t F' H' u r h => ?_⟩
        split at h
        · cases r
          exact ⟨_, rfl, q _ _ F' H' u (.bl _) h⟩
        · cases h
  · cases hk
/-! isinstance(x, C), C an own class: instances of C -/
def rIsC (R : PySem.W.Frag) (C : Addr) : List V → Hp → VK → Prop := fun xs H Q => ∃ a dx fs, xs = [.ref a, .ref C] ∧ H a = some (.ins C dx fs) ∧ Q (.bl true) H
def bIsC (C : Nat) : B1 := fun xs k => match xs with
  | [.ins c _, .cls c'] => decide (c = C) && (decide (c' = C) && k (.bl true))
  | _ => false
theorem bs_isC {C : Nat} : BS d (rIsC Cl.K (Cl.ad C)) (bIsC C) := by
  intro F H vs xs wd r k hk Q q
  unfold bIsC at hk
  split at hk
  · rename_i c fs c'
    rw [Bool.and_eq_true, Bool.and_eq_true, decide_eq_true_eq, decide_eq_true_eq] at hk
    obtain ⟨rfl, e2, hk⟩ := hk
    subst e2
    obtain ⟨v, w, rfl, r1, r2⟩ := rts2 r
    cases r1 with
    | ins e1 r1 =>
      cases r2
      exact ⟨_, _, _, rfl, rd_ins wd e1, q _ _ F H (Up.refl wd) (.bl _) hk⟩
  · cases hk
end
end Tr
set_option maxRecDepth 100000
set_option maxHeartbeats 4000000
/-! Trees: more operators and built-ins. -/
namespace Tr
open PySem PySem.Spec PyProof.Rows L2 Tm
variable [Cl] [Tt]
section
variable {d : Option Addr}
theorem os_fdiv : OpS d (rI CDivW fun i j => .int (i / j)) (oI (fun _ j => decide (0 < j) && decide (j.natAbs.log2 < 9000)) fun i j => .int (i / j)) :=
  os_I (fun i j h => by
    simp only [Bool.and_eq_true, decide_eq_true_eq] at h
    exact ⟨h.1, h.2⟩) fun _ _ _ => .int _
theorem os_mod : OpS d (rI (fun _ j => 0 < j) fun i j => .int (i % j)) (oI (fun _ j => decide (0 < j)) fun i j => .int (i % j)) :=
  os_I (fun i j h => of_decide_eq_true h) fun _ _ _ => .int _
theorem os_pow : OpS d (rI CPowB fun i j => .int (i ^ j.toNat)) (oI (fun i j => decide (0 ≤ j) && decide ((Builtin.Int.intBits i : Int) * j ≤ 134217728)) fun i j => .int (i ^ j.toNat)) :=
  os_I (fun i j h => by
    simp only [Bool.and_eq_true, decide_eq_true_eq] at h
    exact ⟨h.1, h.2⟩) fun _ _ _ => .int _
def oNone (pos : Bool) : O2 := fun x y k => match y with
  | .non => k (.bl (if pos then isN x else !isN x))
  | _ => false
def rNil1 : R2 := fun x y H Q => y = .non ∧ Q (.bl (decide (x = .non))) H
def rNil0 : R2 := fun x y H Q => y = .non ∧ Q (.bl (!decide (x = .non))) H
omit [Cl] [Tt] in
theorem op_isNil {X : Cx} : OpR X (compareOp .Is) rNil1 := op_isN
omit [Cl] [Tt] in
theorem op_notNil {X : Cx} : OpR X (compareOp .IsNot) rNil0 := op_notN
omit [Cl] [Tt] in
theorem op_addTxt {X : Cx} : OpR X (binaryOp .Add) (fun x y H Q => ∃ i j, x = .str i ∧ y = .str j ∧ i.length + j.length ≤ sizeLine ∧ Q (.str (i ++ j)) H) := op_add_str
theorem os_isN : OpS d rNil1 (oNone true) := by
  intro F H v w x y wd rx ry k hk Q q
  unfold oNone at hk
  split at hk
  · cases ry
    exact ⟨rfl, q _ _ F H (Up.refl wd) (.bl _) (by rw [isN_rt rx]; exact hk)⟩
  · cases hk
theorem os_notN : OpS d rNil0 (oNone false) := by
  intro F H v w x y wd rx ry k hk Q q
  unfold oNone at hk
  split at hk
  · cases ry
    exact ⟨rfl, q _ _ F H (Up.refl wd) (.bl _) (by rw [isN_rt rx]; exact hk)⟩
  · cases hk
def oBB (g : Bool → Bool → Bool) : O2 := fun x y k => match x, y with
  | .bl a, .bl b => k (.bl (g a b))
  | _, _ => false
theorem os_isB : OpS d rIsB (oBB fun a b => decide (a = b)) := by
  intro F H v w x y wd rx ry k hk Q q
  unfold oBB at hk
  split at hk
  · cases rx
    cases ry
    exact ⟨_, _, rfl, rfl, q _ _ F H (Up.refl wd) (.bl _) hk⟩
  · cases hk
def rAddS : R2 := fun x y H Q => ∃ i j, x = .str i ∧ y = .str j ∧ i.length + j.length ≤ sizeLine ∧ Q (.str (i ++ j)) H
def oAddS : O2 := fun x y k => match x, y with
  | .str a, .str b => decide (a.length + b.length ≤ 16777216) && k (.str (a ++ b))
  | _, _ => false
theorem os_addS : OpS d rAddS oAddS := by
  intro F H v w x y wd rx ry k hk Q q
  unfold oAddS at hk
  split at hk
  · rw [Bool.and_eq_true, decide_eq_true_eq] at hk
    cases rx
    cases ry
    exact ⟨_, _, rfl, rfl, by rw [sizeLine_eq]; exact hk.1, q _ _ F H (Up.refl wd) (.str _) hk.2⟩
  · cases hk
def oIxS : O2 := fun x y k => match x, y with
  | .str z, .int i => decide (z.length ≤ 16777216) && match atI z.cps.toList i with
    | some c => k (.str ⟨#[c]⟩)
    | none => false
  | _, _ => false
theorem os_ixS : OpS d rIxS oIxS := by
  intro F H v w x y wd rx ry k hk Q q
  unfold oIxS at hk
  split at hk
  · rename_i z i
    rw [Bool.and_eq_true, decide_eq_true_eq] at hk
    cases rx
    cases ry
    obtain ⟨h1, h2⟩ := hk
    split at h2
    · rename_i c e
      exact ⟨z, i, c, rfl, rfl, by rw [sizeLine_eq]; exact h1, e, q _ _ F H (Up.refl wd) (.str _) h2⟩
    · cases h2
  · cases hk
def bAbs : B1 := fun xs k => match xs with
  | [.int i] => k (.int (if i < 0 then -i else i))
  | _ => false
theorem bs_abs : BS d (fun xs H Q => ∃ i, xs = [.int i] ∧ Q (.int (if i < 0 then -i else i)) H) bAbs := by
  intro F H vs xs wd r k hk Q q
  unfold bAbs at hk
  split at hk
  · obtain ⟨v, rfl, r1⟩ := rts1 r
    cases r1
    exact ⟨_, rfl, q _ _ F H (Up.refl wd) (.int _) hk⟩
  · cases hk
def bStrI : B1 := fun xs k => match xs with
  | [.int i] => decide (i.natAbs.log2 < 1920) && k (.str (toString i))
  | _ => false
theorem bs_strI : BS d (fun xs H Q => ∃ i, xs = [.int i] ∧ i.natAbs.log2 < 1920 ∧ Q (.str (toString i)) H) bStrI := by
  intro F H vs xs wd r k hk Q q
  unfold bStrI at hk
  split at hk
  · rw [Bool.and_eq_true, decide_eq_true_eq] at hk
    obtain ⟨v, rfl, r1⟩ := rts1 r
    cases r1
    exact ⟨_, rfl, hk.1, q _ _ F H (Up.refl wd) (.str _) hk.2⟩
  · cases hk
def bGcd : B1 := fun xs k => match xs with
  | [.int i, .int j] => k (.int ((Nat.gcd i.natAbs j.natAbs : Nat) : Int))
  | _ => false
theorem bs_gcd : BS d rGcd bGcd := by
  intro F H vs xs wd r k hk Q q
  unfold bGcd at hk
  split at hk
  · cases r with
    | cons r1 r2 => cases r2 with
      | cons r2 r3 =>
        cases r1
        cases r2
        cases r3
        exact ⟨_, _, rfl, q _ _ F H (Up.refl wd) (.int _) hk⟩
  · cases hk
end
end Tr
set_option maxRecDepth 100000
set_option maxHeartbeats 4000000
/-! Trees: sorted(list of nested data), empty tuples among them too. -/
namespace Tr
open PySem PySem.W PySem.SeqAt PyProof.Rows PySem.Calls
section
variable {prog : Program} {w : World} {A : Around} {s : Shared} {E : Value → Shared → Prop}
/-- has a first item -/
def someIn : PyData → Bool
  | .tuple (_ :: _) => true
  | _ => false
theorem tupLess {xs ys : List PyData} {u v : Value} {as bs : List Addr} {Q : Bool → Shared → Prop} (one : Bool) (ru : Reads s.heap u (.tuple xs) as) (rv : Reads s.heap v (.tuple ys) bs) (al : alike (.tuple xs) (.tuple ys) = true)
    (room : A.units + min (PyData.tuple xs).depth (PyData.tuple ys).depth < cLine) (q : Q (dataLt (.tuple xs) (.tuple ys)) s) : wpAny (model prog w) A (oneLt' one u v) Q E s := by
  cases one with
  | false => exact oneLt_alike (f := false) (fun z => by cases z) ru rv al (fun z => by cases z) room q
  | true =>
    have al2 : alikeAll xs ys = true := by simpa [alike] using al
    cases ru with
    | @tuple a oa va na _ _ a1 a2 a3 a4 =>
      cases rv with
      | @tuple b ob vb nb _ _ b1 b2 b3 b4 =>
        have la : va.size = xs.length := by simpa using ReadsAll.length _ _ _ a4
        have lb : vb.size = ys.length := by simpa using ReadsAll.length _ _ _ b4
        rw [dataLt_tuple, ← firstLt_toks xs ys al2, ← la, ← lb] at q
        rw [oneLt'_eq]
        simp only [if_true]
        have ta : s.heap.IsTuple a va := ⟨oa, a1, a2, na, a3⟩
        have tb : s.heap.IsTuple b vb := ⟨ob, b1, b2, nb, b3⟩
        refine wpAny_bind (wpAny_cRoomFor (room_here room) ?_)
        refine wpAny_bind (wpAny_callSpecialIfBound?_slot (T := "tuple") ⟨oa, a1, a2⟩ F.slot_tuple_lt ?_)
        obtain ⟨⟨ca, da, ka, sa⟩, ha, ea, ma, fa⟩ := id ta
        obtain ⟨⟨cb, db, kb, sb⟩, hb, eb, mb, fb⟩ := id tb
        simp only at ea fa eb fb
        subst ea fa eb fb
        refine call_meets F.slot_tuple_lt ⟨_, ha, rfl⟩ F.entry_tuple_lt (F.args_tuple_lt_2 _ _) (tuple_ltAt a b va vb ma mb da db sa sb (pairEq xs ys) fun j => dataLt (xs.getD j .none) (ys.getD j .none)) ⟨ha, hb, fun j j1 j2 => ?_, fun j j1 j2 hj => ?_, ?_⟩
        · have t := eqAt_alikeAll xs ys A.in1 s va.toList vb.toList _ _ a4 b4 al2 (room_in room) j (by simpa using j1) (by simpa using j2)
          simpa using t
        · have t := rcLt_alikeAll xs ys A.in1 s va.toList vb.toList _ _ a4 b4 al2 (room_in room) j (by simpa using j1) (by simpa using j2) hj
          simpa using t
        · exact wpAny_truthy_bool q
theorem firstsOf {M : Model} : ∀ {vs : List Value} {ds : List PyData}, EachIs (fun v d => ∃ as, Reads s.heap v d as) vs ds → (∀ d ∈ ds, ∃ xs, d = .tuple xs) →
    ∃ fs : List (Option Value), fs.map Option.isSome = ds.map someIn ∧ ∀ {Q : List (Option Value) → Shared → Prop}, Q fs s → wpAny M A (vs.mapM firstOfTuple') Q E s
  | _, _, .nil, _ => ⟨[], rfl, fun q => by rw [List.mapM_nil]; exact wpAny_pure q⟩
  | _, _, .cons (a := v) (b := d) (as := vs) (bs := ds) ⟨as, r⟩ t, h => by
    obtain ⟨fs, e, k⟩ := firstsOf (M := M) t fun d hd => h d (List.mem_cons_of_mem _ hd)
    obtain ⟨xs, rfl⟩ := h _ List.mem_cons_self
    cases r with
    | @tuple a o us n _ _ h1 h2 h3 h4 =>
      refine ⟨us[0]? :: fs, ?_, fun {Q} q => ?_⟩
      · rw [List.map_cons, List.map_cons, e]
        congr 1
        have l : us.size = xs.length := by simpa using ReadsAll.length _ _ _ h4
        cases xs with
        | nil =>
          have : us[0]? = none := Array.getElem?_eq_none (by rw [l]; exact Nat.le_refl _)
          rw [this]; rfl
        | cons x r =>
          have : us[0]? = some (us[0]'(by rw [l]; exact Nat.succ_pos _)) := Array.getElem?_eq_getElem _
          rw [this]; rfl
      · rw [List.mapM_cons]
        refine wpAny_bind ?_
        rw [kas_first_eq]
        refine wpAny_bind ((looks_reads (Reads.tuple h1 h2 h3 h4)).here ?_)
        rw [if_neg (by simp [dataType])]
        refine wpAny_bind (listItems_at h1 h3 (wpAny_pure ?_))
        exact wpAny_bind (k (wpAny_pure q))
theorem sortsTups {vs : List Value} {ds : List PyData} (e : EachIs (fun v d => ∃ as, Reads s.heap v d as) vs ds) (hal : AllAlike ds) (ht : ∀ d ∈ ds, ∃ xs, d = .tuple xs) (hu : ∀ d, d ∈ ds → A.units + d.depth < cLine) : SortsAt prog w A s (dataKind s.heap ds) vs := by
  by_cases full : ds.all someIn = true
  · refine SortsAt.data e hal (.inl fun d hd => ?_) hu
    have := List.all_eq_true.mp full d hd
    obtain ⟨xs, rfl⟩ := ht d hd
    cases xs with
    | nil => cases this
    | cons x r => exact ⟨x, r, rfl⟩
  · have less : ∀ one : Bool, ∀ (E : Value → Shared → Prop) (x y : Value) (a b : (dataKind s.heap ds).α) {Q : Bool → Shared → Prop}, (dataKind s.heap ds).keyOf x = some a → (dataKind s.heap ds).keyOf y = some b → Q ((dataKind s.heap ds).blt a b) s → wpAny (model prog w) A (oneLt' one x y) Q E s := by
      intro one E x y a b Q ha hb hq
      obtain ⟨d, as, hd, ra, rfl⟩ := dataKind_inv ha
      obtain ⟨d', as', hd', rb, rfl⟩ := dataKind_inv hb
      obtain ⟨xs, rfl⟩ := ht d hd
      obtain ⟨ys, rfl⟩ := ht d' hd'
      exact tupLess one ra rb (hal _ hd _ hd') (Nat.lt_of_le_of_lt (Nat.add_le_add_left (Nat.min_le_left _ _) _) (hu _ hd)) hq
    have keys : ∀ v ∈ vs, ∃ a, (dataKind s.heap ds).keyOf v = some a := fun v hv => by
      obtain ⟨d, hd, as, r⟩ := e.left v hv
      exact ⟨_, dataKind_some hal hd r⟩
    cases hds : ds with
    | nil => rw [hds] at full; exact absurd rfl full
    | cons d₀ rest =>
      have ask : ∀ (kd : SortKind), kd = (if someIn d₀ = true then general' else oneType') → ∀ (E : Value → Shared → Prop) {Q : SortKind → Shared → Prop}, Q kd s → wpAny (model prog w) A (keyKind' vs.toArray) Q E s := by
        intro kd hkd E Q hq
        obtain ⟨fs, ef, kf⟩ := firstsOf (M := model prog w) (E := E) (A := A) e ht
        rw [keyKind'_eq, List.mapM_toArray, map_eq_pure_bind]
        refine wpAny_bind (wpAny_bind (kf (wpAny_pure ?_)))
        have nall : ¬ (fs.toArray.all fun x => x.isSome) = true := by
          intro z
          refine full ?_
          rw [List.all_toArray] at z
          have z2 : (fs.map Option.isSome).all id = true := by rw [List.all_map]; exact z
          rw [ef, List.all_map] at z2
          exact z2
        rw [if_neg nall]
        have h0 : (fs.toArray[0]?.bind id).isSome = someIn d₀ := by
          rw [hds] at ef
          cases fs with
          | nil => cases ef
          | cons f fr =>
            have := (List.cons.inj ef).1
            show (Option.bind (some f) id).isSome = _
            exact this
        rw [h0]
        by_cases c : someIn d₀ = true
        · rw [if_pos c]
          rw [if_pos c] at hkd
          exact wpAny_pure (hkd ▸ hq)
        · rw [if_neg c]
          rw [if_neg c] at hkd
          rw [oneTypeOnly'_eq, List.mapM_toArray, map_eq_pure_bind]
          refine wpAny_bind (wpAny_bind (wpAny_bind (kas_mapM (r := Value.type "tuple") _ (fun v hv Q' hq' => ?_) (wpAny_pure ?_))))
          · obtain ⟨d, hd, as, r⟩ := e.left v hv
            obtain ⟨xs, rfl⟩ := ht d hd
            exact (looks_reads r).here hq'
          · have ne : ∃ v₁ vr, vs = v₁ :: vr := by
              rw [hds] at e
              cases e with
              | cons _ _ => exact ⟨_, _, rfl⟩
            obtain ⟨v₁, vr, rfl⟩ := ne
            have al : ((List.map (fun _ => Value.type "tuple") (v₁ :: vr)).toArray.all fun x => x == Value.type "tuple") = true := by
              simp only [List.all_toArray, List.all_map, List.all_eq_true]
              intro _ _
              exact beq_self_eq_true (Value.type "tuple")
            have g0 : (List.map (fun _ => Value.type "tuple") (v₁ :: vr)).toArray[0]? = some (Value.type "tuple") := by simp
            rw [g0]
            simp only [al, if_true]
            exact wpAny_pure (wpAny_pure (hkd ▸ hq))
      rw [← hds]
      by_cases c : someIn d₀ = true
      · exact ⟨keys, general', fun E x y a b Q ha hb hq => less false E x y a b ha hb hq, fun _ E Q hq => ask general' (if_pos c).symm E hq⟩
      · exact ⟨keys, oneType', fun E x y a b Q ha hb hq => by rw [keyLt'_oneType]; exact less true E x y a b ha hb hq, fun _ E Q hq => ask oneType' (if_neg c).symm E hq⟩
end
section
open L2 Tm
variable {X : Cx}
theorem eachOf {P : L2.V × PyData → Prop} : ∀ {bs : List (L2.V × PyData)} {us : List Value}, Vals (bs.map (·.1)) us → EachIs (fun u b => RelV b.1 u) us bs
  | [], _, r => by cases r; exact .nil
  | b :: bs, _, r => by
    cases r with
    | cons r1 r2 => exact .cons r1 (eachOf (P := P) r2)
theorem eachBack : ∀ {us : List Value} {bs : List (L2.V × PyData)}, EachIs (fun u b => RelV b.1 u) us bs → Vals (bs.map (·.1)) us
  | _, _, .nil => .nil
  | _, _, .cons h t => .cons h (eachBack t)
def TupOr (ds : List PyData) : Prop := (∀ d ∈ ds, ∃ xs, d = .tuple xs) ∨ Sortable ds
/-- sorted(xs), xs a list of alike data: a new list, stably sorted -/
def rSortD (K : PySem.W.Frag) : List L2.V → Hp → VK → Prop := fun vs H Q => ∃ (a : Addr) (bs : List (L2.V × PyData)), vs = [L2.V.ref a] ∧ SqL K H a (bs.map (·.1)) ∧ (∀ b ∈ bs, Dp K H b.1 b.2) ∧ AllAlike (bs.map (·.2)) ∧ TupOr (bs.map (·.2)) ∧ (∀ b ∈ bs, b.2.depth ≤ 60) ∧
  ∀ p, H p = none → Q (.ref p) (upd H p (.lst ((bs.mergeSort (dataLe false (·.2))).map (·.1))))
theorem cr_sortD (hu : X.A.units + 64 < cLine) : CallR X (.builtin "sorted") (rSortD X.K) := by
  intro pins s σ H vs us Q I r h
  obtain ⟨a, bs, rfl, hs, hd, al, so, dp, q⟩ := h
  obtain ⟨its, rv, hl, hz⟩ := I.list hs
  rw [Vals.ref1 r]
  have e := eachOf (P := fun _ => True) rv
  have len : its.length = bs.length := e.length
  have er : EachIs (fun v (b : L2.V × PyData) => ∃ as, Reads s.heap v b.2 as) its bs := (each_mem e).mono fun v b q => Dp.reads I _ _ _ (hd b q.2) q.1
  have er' : EachIs (fun v (b : L2.V × PyData) => ∃ as, Reads (sortingHeap (copyHeap s.heap its) (s.heap.objs.size + 1) its) v b.2 as) its bs := er.mono fun _ _ ⟨as, r⟩ => ⟨as, PyProof.Rows.Reads.keeps (fun _ _ => sorting_copy_old) r⟩
  have e2 := each_map (R := fun v d => ∃ as, Reads (sortingHeap (copyHeap s.heap its) (s.heap.objs.size + 1) its) v d as) (fun b : L2.V × PyData => b.2) er'
  have bound : ∀ d ∈ bs.map (·.2), X.A.in1.in1.units + d.depth < cLine := by
    intro d hd
    obtain ⟨b, hb, rfl⟩ := List.mem_map.mp hd
    have := dp b hb
    show X.A.units + 1 + 1 + b.2.depth < cLine
    omega
  have S : SortsAt X.prog X.w X.A.in1.in1 { s with heap := sortingHeap (copyHeap s.heap its) (s.heap.objs.size + 1) its } (dataKind (sortingHeap (copyHeap s.heap its) (s.heap.objs.size + 1) its) (bs.map (·.2))) its := by
    rcases so with so | so
    · exact sortsTups (s := { s with heap := sortingHeap (copyHeap s.heap its) (s.heap.objs.size + 1) its }) e2 al so bound
    · exact SortsAt.data (s := { s with heap := sortingHeap (copyHeap s.heap its) (s.heap.objs.size + 1) its }) e2 al so bound
  have hz2 : its.length ≤ sizeLine := by
    rw [len]
    simpa using hz
  have out := sortVals_data (R := fun u (b : L2.V × PyData) => RelV b.1 u) (enc := fun b : L2.V × PyData => b.2) false e er' al
  refine sorted_vals hl.isList S hz2 ?_
  generalize ho : sortVals (dataKind (sortingHeap (copyHeap s.heap its) (s.heap.objs.size + 1) its) (bs.map fun b => b.2)) false its its = os at out ⊢
  have lo : os.length = bs.length := by rw [out.length, List.length_mergeSort]
  obtain ⟨ep, he'⟩ := PyProof.Rows.sortedAll_at s.heap its os.toArray
  refine ⟨.ref _, upd H (s.heap.objs.size + 1) (.lst ((bs.mergeSort (dataLe false (·.2))).map (·.1))), I.laid (t' := s.toks) (fun _ _ => PyProof.Rows.sortedAll_old) (Nat.le_succ _) ⟨?_, os, ep, eachBack out, ?_⟩, rfl, q _ (I.hok.fresh (Nat.le_succ _))⟩
  · rw [List.length_map, List.length_mergeSort, ← len]
    exact hz2
  · simpa using he'
end
end Tr
set_option maxRecDepth 100000
set_option maxHeartbeats 4000000
namespace Tr
open PySem PySem.Spec PyProof.Rows L2 Tm PySem.W
variable [Cl] [Tt]
section
variable {d : Option Addr}
def dOf (t : T) : PyData := (T.data t).getD .none
/-- x stands not behind y -/
def leD (x y : T) : Bool := !dataLt (dOf y) (dOf x)
def insD (x : T) : List T → List T
  | [] => [x]
  | y :: l => if leD x y then x :: y :: l else y :: insD x l
def sortD : List T → List T
  | [] => []
  | x :: l => insD x (sortD l)
theorem leD_total : TotalLe leD := sortLe_total (PyProof.Rows.listOrd itemOrd) false (fun t => keyToks (dOf t))
theorem insD_mem {x : T} : ∀ {l : List T} {y : T}, y ∈ insD x l ↔ y = x ∨ y ∈ l
  | [], y => by simp [insD]
  | z :: l, y => by
    unfold insD
    split
    · simp
    · rw [List.mem_cons, insD_mem, List.mem_cons]
      constructor
      · rintro (h | h | h)
        · exact .inr (.inl h)
        · exact .inl h
        · exact .inr (.inr h)
      · rintro (h | h | h)
        · exact .inr (.inl h)
        · exact .inl h
        · exact .inr (.inr h)
theorem insD_sorted {x : T} : ∀ {l : List T}, l.Pairwise (fun a b => leD a b = true) → (insD x l).Pairwise (fun a b => leD a b = true)
  | [], _ => by simp [insD]
  | y :: l, h => by
    unfold insD
    rw [List.pairwise_cons] at h
    by_cases c : leD x y = true
    · rw [if_pos c]
      refine List.pairwise_cons.mpr ⟨fun z hz => ?_, List.pairwise_cons.mpr h⟩
      rcases List.mem_cons.mp hz with rfl | hz
      · exact c
      · exact leD_total.trans _ _ _ c (h.1 z hz)
    · rw [if_neg c]
      refine List.pairwise_cons.mpr ⟨fun z hz => ?_, insD_sorted h.2⟩
      rcases insD_mem.mp hz with rfl | hz
      · exact (leD_total.total z y).resolve_left c
      · exact h.1 z hz
theorem insD_filter {x c : T} : ∀ {l : List T}, (insD x l).filter (sameRank leD c) = (x :: l).filter (sameRank leD c)
  | [] => rfl
  | y :: l => by
    unfold insD
    by_cases h : leD x y = true
    · rw [if_pos h]
    · rw [if_neg h]
      simp only [List.filter_cons, insD_filter (l := l)]
      by_cases hx : sameRank leD c x = true
      · by_cases hy : sameRank leD c y = true
        · exfalso
          unfold sameRank at hx hy
          rw [Bool.and_eq_true] at hx hy
          exact h (leD_total.trans _ _ _ hx.2 hy.1)
        · simp only [if_pos hx, if_neg hy]
      · simp only [if_neg hx]
theorem sortD_sorted : ∀ l : List T, (sortD l).Pairwise (fun a b => leD a b = true)
  | [] => .nil
  | _ :: l => insD_sorted (sortD_sorted l)
theorem sortD_filter (c : T) : ∀ l : List T, (sortD l).filter (sameRank leD c) = l.filter (sameRank leD c)
  | [] => rfl
  | x :: l => by
    show (insD x (sortD l)).filter _ = _
    rw [insD_filter, List.filter_cons, List.filter_cons, sortD_filter c l]
theorem sortD_eq (l : List T) : sortD l = l.mergeSort leD := sort_unique leD_total (sortD_sorted l) fun c => sortD_filter c l
theorem rts_zip {F : Hp} : ∀ {vs : List V} {ts : List T}, RTs F vs ts → ∃ cs : List (V × T), cs.map (·.1) = vs ∧ cs.map (·.2) = ts ∧ ∀ c ∈ cs, RT F c.1 c.2
  | _, _, .nil => ⟨[], rfl, rfl, fun c h => by cases h⟩
  | _, _, .cons (v := v) (t := t) h r => by
    obtain ⟨cs, e1, e2, q⟩ := rts_zip r
    refine ⟨(v, t) :: cs, by rw [List.map_cons, e1], by rw [List.map_cons, e2], fun c hc => ?_⟩
    rcases List.mem_cons.mp hc with rfl | hc
    · exact h
    · exact q c hc
theorem zip_rts {F : Hp} : ∀ {cs : List (V × T)}, (∀ c ∈ cs, RT F c.1 c.2) → RTs F (cs.map (·.1)) (cs.map (·.2))
  | [], _ => .nil
  | c :: cs, h => .cons (h c List.mem_cons_self) (zip_rts fun x hx => h x (List.mem_cons_of_mem _ hx))
def likeB (ds : List PyData) : Bool := ds.all fun x => ds.all fun y => alike x y
def isTup : PyData → Bool
  | .tuple _ => true
  | _ => false
def isBare : PyData → Bool
  | .tuple _ => false
  | .none => false
  | _ => true
def okSort (ts : List T) : Bool := ts.all (fun t => (T.data t).isSome) && (likeB (ts.map dOf) && ((((ts.map dOf).all isTup) || ((ts.map dOf).all isBare)) && ts.all fun t => decide ((dOf t).depth ≤ 60)))
def bSortD : B1 := fun xs k => match xs with
  | [.lst ts] => okSort ts && k (.lst (sortD ts))
  | _ => false
theorem bn_sortD : BN d (rSortD Cl.K) bSortD := by
  intro F H vs xs wd r k hk Q q
  unfold bSortD at hk
  split at hk
  · rename_i ts
    obtain ⟨v, rfl, r1⟩ := rts1 r
    unfold okSort at hk
    simp only [Bool.and_eq_true, Bool.or_eq_true] at hk
    obtain ⟨⟨h1, h2, h3, h4⟩, hk⟩ := hk
    cases r1 with
    | lst f r =>
      obtain ⟨cs, e1, e2, rc⟩ := rts_zip r
      have dt : ∀ c ∈ cs, T.data c.2 = some (dOf c.2) := fun c hc => by
        have : c.2 ∈ ts := by rw [← e2]; exact List.mem_map.mpr ⟨c, hc, rfl⟩
        obtain ⟨x, hx⟩ := Option.isSome_iff_exists.mp (List.all_eq_true.mp h1 _ this)
        unfold dOf
        rw [hx]
        rfl
      have m2 : (cs.map fun c => (c.1, dOf c.2)).map (·.2) = ts.map dOf := by
        rw [List.map_map, ← e2, List.map_map]
        rfl
      refine ⟨_, cs.map fun c => (c.1, dOf c.2), rfl, ?_, fun b hb => ?_, ?_, ?_, fun b hb => ?_, fun p hp => ?_⟩
      · rw [List.map_map]
        show SqL Cl.K H _ (cs.map fun c => c.1)
        rw [e1]
        exact rd_sql wd f
      · obtain ⟨c, hc, rfl⟩ := List.mem_map.mp hb
        exact dp_of wd (rc c hc) (dt c hc)
      · rw [m2]
        intro x hx y hy
        exact List.all_eq_true.mp (List.all_eq_true.mp h2 x hx) y hy
      · rw [m2]
        rcases h3 with h3 | h3
        · refine .inl fun x hx => ?_
          have := List.all_eq_true.mp h3 x hx
          cases x <;> first | exact ⟨_, rfl⟩ | cases this
        · refine .inr (.inr fun x hx => ?_)
          have := List.all_eq_true.mp h3 x hx
          cases x with
          | none => exact absurd this Bool.false_ne_true
          | tuple xs => exact absurd this Bool.false_ne_true
          | _ => exact ⟨(fun z => by cases z), (fun xs z => by cases z)⟩
      · obtain ⟨c, hc, rfl⟩ := List.mem_map.mp hb
        have : c.2 ∈ ts := by rw [← e2]; exact List.mem_map.mpr ⟨c, hc, rfl⟩
        exact of_decide_eq_true (List.all_eq_true.mp h4 _ this)
      · have s1 : ((cs.map fun c => (c.1, dOf c.2)).mergeSort (dataLe false (·.2))) = (cs.mergeSort fun a b => leD a.2 b.2).map fun c => (c.1, dOf c.2) :=
          (sort_maps (fun c : V × T => (c.1, dOf c.2)) (l := cs) (r := fun a b => leD a.2 b.2) (s := dataLe false (·.2)) fun a _ b _ => rfl).symm
        have s2 : sortD ts = (cs.mergeSort fun a b => leD a.2 b.2).map (·.2) := by
          rw [sortD_eq, ← e2]
          exact (sort_maps (fun c : V × T => c.2) (l := cs) (r := fun a b => leD a.2 b.2) (s := leD) fun a _ b _ => rfl).symm
        rw [s1, List.map_map]
        have mem : ∀ c ∈ cs.mergeSort fun a b => leD a.2 b.2, RT F c.1 c.2 := fun c hc => rc c ((List.mergeSort_perm cs _).mem_iff.mp hc)
        refine q p _ F _ (up_new wd hp) hp (f_none wd hp) (show OwnAt F (upd H p _) p (.lst (sortD ts)) from ⟨_, upd_same, ?_⟩) hk
        rw [s2]
        exact zip_rts mem
  · cases hk
end
end Tr
set_option maxRecDepth 100000
set_option maxHeartbeats 4000000
/-! Trees: sorted(d.items()), list(d.items()). -/
namespace Tr
open PySem PySem.Spec PyProof.Rows L2 Tm
section
variable {X : Cx} {pins : List (Addr × Obj)} {σ : L2.St} {H : Hp} {s : Shared}
/-- the pairs of a dict, each with its object -/
def putF (f : Addr → Obj) (H : Hp) : List Addr → List (L2.Key × L2.V) → Hp
  | t :: ts, q :: kvs => putF f (upd H t (.frz (f t) (.tup [kV q.1, q.2]))) ts kvs
  | _, _ => H
theorem putF_off {f : Addr → Obj} : ∀ {ts : List Addr} {kvs : List (L2.Key × L2.V)} {H : Hp} {b : Addr}, b ∉ ts → putF f H ts kvs b = H b
  | [], _, _, _, _ => by unfold putF; rfl
  | _ :: _, [], _, _, _ => rfl
  | t :: ts, q :: kvs, H, b, h => by
    show putF f (upd H t _) ts kvs b = H b
    rw [putF_off fun z => h (.tail _ z), upd_ne fun z => h (by rw [z]; exact List.mem_cons_self)]
theorem putF_at {f : Addr → Obj} : ∀ {ts : List Addr} {kvs : List (L2.Key × L2.V)} {H : Hp}, ts.length = kvs.length → ts.Nodup → Paired (fun (t : Addr) (q : L2.Key × L2.V) => putF f H ts kvs t = some (HO.frz (f t) (.tup [kV q.1, q.2]))) ts kvs
  | [], [], _, _, _ => .nil
  | t :: ts, q :: kvs, H, hl, nd => by
    have nd' := List.nodup_cons.mp nd
    refine .cons ?_ (putF_at (H := upd H t _) (by simpa using hl) nd'.2)
    show putF f (upd H t _) ts kvs t = _
    rw [putF_off nd'.1, upd_same]
/-- what lies there -/
def objAt (h : Heap) (t : Addr) : Obj := (h.get? t).getD { cls := .type "tuple", data := .seq #[] }
/-- pairs of a dict, made behind what there was, are told to the heap -/
theorem pairs_told {h' : Heap} {tk lo : Nat} {kvs : List (L2.Key × L2.V)} {vs : List (L2.Key × Value)} {as : List Addr} (I : L2.Inv X pins σ H s) (kv : KV kvs vs) (up : ∀ b o, s.heap.get? b = some o → h'.get? b = some o)
    (len : as.length = vs.length) (hlo : s.heap.objs.size ≤ lo) (G : PySem.W.KdxG (mixKind X.prog X.w) vs lo h' as) :
    L2.Inv X pins σ (putF (objAt h') H as kvs) { s with heap := h', toks := tk } ∧ (∀ t ∈ as, H t = none) ∧ as.Nodup ∧ (∀ b, b ∉ as → putF (objAt h') H as kvs b = H b) ∧ Paired (fun (t : Addr) (q : L2.Key × L2.V) => putF (objAt h') H as kvs t = some (HO.frz (objAt h' t) (.tup [kV q.1, q.2]))) as kvs ∧ ∀ t ∈ as, (objAt h' t).dict = none := by
  have k0 : kvs.length = vs.length := Paired.length kv
  have nd : as.Nodup := G.rise.imp fun {x y} (z : x < y) => Nat.ne_of_lt z
  have far : ∀ t ∈ as, s.heap.objs.size ≤ t := fun t ht => Nat.le_trans hlo (Nat.le_of_lt (G.above t ht))
  have fresh : ∀ t ∈ as, H t = none := fun t ht => I.hok.fresh (far t ht)
  have rest : ∀ b, b ∉ as → putF (objAt h') H as kvs b = H b := fun b hb => putF_off hb
  have at_ := putF_at (f := objAt h') (H := H) (kvs := kvs) (ts := as) (by omega) nd
  have kp : ∀ b u, H b = some u → putF (objAt h') H as kvs b = some u := fun b u e => by
    rw [rest b fun z => by rw [fresh b z] at e; cases e]
    exact e
  have low : ∀ b o, s.heap.get? b = some o → b ∉ as := fun b o e z => Nat.lt_irrefl _ (Nat.lt_of_lt_of_le (Heap.lt_size e) (far b z))
  have bare : ∀ t ∈ as, (objAt h' t).dict = none := fun t ht => by
    obtain ⟨j, hj⟩ := List.mem_iff_getElem?.mp ht
    obtain ⟨_, _, _, _, _, e⟩ := G.pairs j t hj
    unfold objAt
    rw [e]
    rfl
  refine ⟨?_, fresh, nd, rest, at_, bare⟩
  refine L2.Inv.call' (s' := { s with heap := h', toks := tk }) (ch := []) I rfl ?un ?ok I.bare (fun b z => by cases z)
  case un =>
    exact ⟨fun b o q _ _ _ => up b o q, fun b o q _ _ _ => ⟨o.slots, up b o q⟩, fun b o q n _ => by rw [rest b (low b o q)]; exact n, fun b o q _ => ⟨o, up b o q⟩, fun b xs q => kp b _ q, fun b o u q => kp b _ q,
      fun b ps q => ⟨#[], by rw [kp b _ q]; simp⟩⟩
  case ok =>
    intro b u q
    by_cases hb : b ∈ as
    · obtain ⟨j, e, e1, e2, e3⟩ := LiI.paired_ix at_ hb
      rw [e3] at q
      cases q
      obtain ⟨key, k, x, g1, g2, g3⟩ := G.pairs j b e1
      obtain ⟨y, f1, f2, f3⟩ := LiI.paired_get kv e2
      rw [g1] at f1
      cases f1
      have rk : RelV (kV e.1) key := by
        rw [f2]
        exact relV_key (show keyIs k key = true from g2)
      have ob : objAt h' b = { cls := .type "tuple", data := .seq #[key, x] } := by
        unfold objAt
        rw [g3]
        rfl
      rw [ob]
      exact ⟨g3, by show 2 ≤ sizeLine; decide, [key, x], .cons rk (.cons f3 .nil), ⟨_, g3, rfl, _, rfl⟩⟩
    · rw [rest b hb] at q
      exact (I.hok b u q).stay (fun c v _ y => up c v y) (fun c y => kp c _ y) fun c xs y => kp c _ y
end
section
variable {X : Cx}
/-- d.items(), d a dict of ours -/
def rItV : V → List V → Hp → VK → Prop := fun x xs H Q => ∃ (a : Addr) (kvs : List (L2.Key × V)), x = .ref a ∧ xs = [] ∧ Rd H a (.dK kvs) ∧ ∀ p, H p = none → Q (.ref p) (upd H p (DX.itemsO p a))
theorem mt_itV : MtR X "dict.items" rItV := by
  intro pins s σ H x xs v us Q I rx rxs h
  obtain ⟨a, kvs, rfl, rfl, ha, q⟩ := h
  cases rx
  cases rxs
  obtain ⟨z, ns, vs, rel, dd⟩ := dk_rd I.hok ha
  have fresh : H s.heap.objs.size = none := I.hok.fresh (Nat.le_refl _)
  refine call_meetsIn PySem.F.slot_dict_items dd.typeIs PySem.F.entry_dict_items (PySem.F.args_dict_items_1 _) (meets_dict_items (mixKind X.prog X.w) a ns) ⟨⟨vs, dd⟩, ?_⟩
  exact ⟨.ref s.heap.objs.size, upd H s.heap.objs.size (DX.itemsO s.heap.objs.size a), I.laid (t' := s.toks) (fun b u e => Heap.get?_push_of_some _ e) (Nat.le_refl _) (DX.itemsO_ok (Heap.get?_push_size _ rfl)), rfl, q _ fresh⟩
/-- a new list of the values vs, stably sorted -/
def rSorted0 (K : PySem.W.Frag) (vs : List V) (H : Hp) (Q : VK) : Prop := ∃ bs : List (V × PyData), bs.map (·.1) = vs ∧ (∀ b ∈ bs, Dp K H b.1 b.2) ∧ PySem.W.AllAlike (bs.map (·.2)) ∧ TupOr (bs.map (·.2)) ∧ (∀ b ∈ bs, b.2.depth ≤ 60) ∧ bs.length ≤ sizeLine ∧
  ∀ p, H p = none → Q (.ref p) (upd H p (.lst ((bs.mergeSort (PySem.W.dataLe false (·.2))).map (·.1))))
open PySem.W in
/-- a list that was just made of values, sorted -/
theorem sort_new {pins : List (Addr × Obj)} {σ : L2.St} {H : Hp} {s : Shared} {vs : List V} {its : List Value} {A : Around} {E : Value → Shared → Prop} {R : PySem.Fin → Shared → Prop} {Q : VK} (I : L2.Inv X pins σ H s) (rv : Vals vs its) (hu : A.units + 62 < cLine) (q : rSorted0 X.K vs H Q)
    (h : ∀ s', EP X pins σ Q (.ref s.heap.objs.size) s' → R (.done (.ret .none)) s') :
    wpAny (model X.prog X.w) A (Builtin.«list.sort» ⟨[.ref s.heap.objs.size], []⟩) R E { s with heap := s.heap.push (seqObj "list" its.toArray 0) } := by
  obtain ⟨bs, rfl, hd, al, so, dp, hz, q⟩ := q
  have e := eachOf (P := fun _ => True) rv
  have len : its.length = bs.length := e.length
  have hz2 : its.length ≤ sizeLine := by rw [len]; exact hz
  have at_ : (s.heap.push (seqObj "list" its.toArray 0)).get? s.heap.objs.size = some (seqObj "list" its.toArray 0) := Heap.get?_push_size _ rfl
  have old : ∀ b o, s.heap.get? b = some o → (sortingHeap (s.heap.push (seqObj "list" its.toArray 0)) s.heap.objs.size its).get? b = some o := fun b o h => sortingHeap_old (Nat.ne_of_lt (Heap.lt_size h)) (Heap.get?_push_of_some _ h)
  have er : EachIs (fun v (b : V × PyData) => ∃ as, Reads (sortingHeap (s.heap.push (seqObj "list" its.toArray 0)) s.heap.objs.size its) v b.2 as) its bs := (each_mem e).mono fun v b z => by
    obtain ⟨as, r⟩ := Dp.reads I _ _ _ (hd b z.2) z.1
    exact ⟨as, PyProof.Rows.Reads.keeps old r⟩
  have e2 := each_map (R := fun v d => ∃ as, Reads (sortingHeap (s.heap.push (seqObj "list" its.toArray 0)) s.heap.objs.size its) v d as) (fun b : V × PyData => b.2) er
  have bound : ∀ d ∈ bs.map (·.2), A.units + d.depth < cLine := by
    intro d hd
    obtain ⟨b, hb, rfl⟩ := List.mem_map.mp hd
    have := dp b hb
    show A.units + b.2.depth < cLine
    omega
  have S : SortsAt X.prog X.w A { s with heap := sortingHeap (s.heap.push (seqObj "list" its.toArray 0)) s.heap.objs.size its } (dataKind (sortingHeap (s.heap.push (seqObj "list" its.toArray 0)) s.heap.objs.size its) (bs.map (·.2))) its := by
    rcases so with so | so
    · exact sortsTups (s := { s with heap := sortingHeap (s.heap.push (seqObj "list" its.toArray 0)) s.heap.objs.size its }) e2 al so bound
    · exact SortsAt.data (s := { s with heap := sortingHeap (s.heap.push (seqObj "list" its.toArray 0)) s.heap.objs.size its }) e2 al so bound
  have out := sortVals_data (R := fun u (b : V × PyData) => RelV b.1 u) (enc := fun b : V × PyData => b.2) false e er al
  refine list_sort_vals (s := { s with heap := s.heap.push (seqObj "list" its.toArray 0) }) at_ S hz2 ?_
  generalize sortVals (dataKind (sortingHeap (s.heap.push (seqObj "list" its.toArray 0)) s.heap.objs.size its) (bs.map fun b => b.2)) false its its = os at out ⊢
  have lo : os.length = bs.length := by rw [out.length, List.length_mergeSort]
  obtain ⟨ep, he'⟩ := PyProof.Rows.sortedHeap_at (vs := its) (out := os.toArray) at_
  refine h _ ⟨.ref _, upd H s.heap.objs.size (.lst ((bs.mergeSort (dataLe false (·.2))).map (·.1))), I.laid (t' := s.toks) (fun b u z => ?_) (Nat.le_refl _) ⟨?_, os, ep, eachBack out, ?_⟩, rfl, q _ (I.hok.fresh (Nat.le_refl _))⟩
  · have lb : b < s.heap.objs.size := Heap.lt_size z
    rw [PyProof.Rows.sortedHeap_old (Nat.ne_of_lt lb) (by rw [Heap.size_push]; exact Nat.lt_succ_of_lt lb)]
    exact Heap.get?_push_of_some _ z
  · rw [List.length_map, List.length_mergeSort]
    exact hz
  · simpa using he'
/-- sorted(d.items()) -/
def rSortIt (K : PySem.W.Frag) : List V → Hp → VK → Prop := fun vs H Q => ∃ (p a : Addr) (kvs : List (L2.Key × V)), vs = [.ref p] ∧ H p = some (DX.itemsO p a) ∧ Rd H a (.dK kvs) ∧
  ∀ (ts : List Addr) (f : Addr → Obj), ts.length = kvs.length → ts.Nodup → (∀ t ∈ ts, H t = none) → (∀ t ∈ ts, (f t).dict = none) → rSorted0 K (ts.map V.ref) (putF f H ts kvs) Q
theorem cr_sortIt (hc : X.calm = true) (hu : X.A.units + 64 < cLine) : CallR X (.builtin "sorted") (rSortIt X.K) := by
  intro pins s σ H xs us Q I r h
  obtain ⟨p, a, kvs, rfl, hp, ha, q⟩ := h
  obtain rfl := Vals.ref1 r
  have view : s.heap.IsItemsView p a := (show ObjOk X.prog X.w H s.heap p (DX.itemsO p a) from I.hok p _ hp).1
  obtain ⟨z, ns, vs, rel, dd⟩ := dk_rd I.hok ha
  have lk : kvs.length = vs.length := Paired.length rel
  obtain ⟨ep, hat⟩ := dd.dictAt
  refine Calls.call_function_entry PyProof.Rows.kind_sorted PyProof.Rows.plain_sorted PyProof.Rows.entry_sorted (PyProof.Rows.args_sorted1 _) ?_
  unfold Builtin.«sorted»
  refine wpAny_bind (m := checkCount "sorted" 1 1 _) (wpAny_pure ?_)
  refine wpAny_bind (PySem.W.kdx_collect (A := X.A.in1) (knd := mixKind X.prog X.w) (kvs := vs) (ep := ep) (I.ok.hd hc) view hat (by omega) fun h' tk as hk hl hG => ?_)
  obtain ⟨J, fr, nd, off, at_, bare⟩ := pairs_told (tk := tk) I rel hk hl (Nat.le_refl _) hG
  have q2 := q as (objAt h') (by omega) nd fr bare
  have sz : (as.map Value.ref).length ≤ sizeLine := by rw [List.length_map]; omega
  refine wpAny_bind (wpAny_newList ?_ sz)
  have at2 : (h'.push (seqObj "list" (as.map Value.ref).toArray 0)).get? h'.objs.size = some (seqObj "list" (as.map Value.ref).toArray 0) := Heap.get?_push_size _ rfl
  refine wpAny_bind (wpAny_holding (wpAny_call_entry PyProof.Rows.slot_list_sort ⟨_, at2, rfl⟩ PyProof.Rows.entry_list_sort
    (sort_new (s := { s with heap := h', toks := tk }) J (LiI.vals_refs as) (by show X.A.units + 1 + 1 + 62 < cLine; omega) q2 fun s' ep' => ⟨_, rfl, wpAny_pure ⟨_, rfl, ep'⟩⟩) (PyProof.Rows.args_list_sort _)))
/-- e.items(), the dict may be locked -/
def tItR (to : TE) : TE := fun σ H Q => to σ H fun x H1 => rItV x [] H1 Q
theorem pe_itR {o : Expr} {to : TE} {apos cpos : Pos} (ho : PE X o to) (hbase : attributeBase o "items" X.env (eval o X.env) = eval o X.env := by rfl) (hline : (apos.endLine == cpos.line) = true := by rfl) : PE X (.Call (.Attribute o "items" apos) [] [] cpos) (tItR to) := by
  refine ⟨fun pins s σ H Q I h => ?_⟩
  refine wpAny_Call_method0_late hbase hline (thn (ho.run pins s σ H _ I h) fun v s1 ⟨x, H1, I1, r1, q1⟩ => ?_)
  obtain ⟨a, kvs, rfl, e0, ha, q⟩ := id q1
  cases (show v = Value.ref a from r1)
  obtain ⟨z, ns, vs, rel, dd⟩ := dk_rd I1.hok ha
  exact ⟨"dict", "dict.items", PySem.F.plainAttrs_dict, PySem.F.slot_dict_items, PySem.F.type_dict_items, dd.typeIs, dd.mapOf.noDict, Calls.callWith_builtin rfl (PySem.evalArgs_none (mt_itV pins s1 σ H1 _ [] _ [] Q I1 r1 .nil q1))⟩
/-- list(d.items()), the dict may be locked -/
def rListIt : List V → Hp → VK → Prop := fun vs H Q => ∃ (v a : Addr) (kvs : List (L2.Key × V)), vs = [.ref v] ∧ H v = some (DX.itemsO v a) ∧ Rd H a (.dK kvs) ∧
  ∀ (p : Addr) (ts : List Addr) (f : Addr → Obj), ts.length = kvs.length → ts.Nodup → (∀ t ∈ ts, H t = none) → (∀ t ∈ ts, (f t).dict = none) → H p = none → p ∉ ts → Q (.ref p) (putF f (upd H p (.lst (ts.map V.ref))) ts kvs)
theorem list_told {pins : List (Addr × Obj)} {σ : L2.St} {H : Hp} {s : Shared} {h' : Heap} {tk c : Nat} {acc : Array Value} {kvs : List (L2.Key × V)} {vs : List (L2.Key × Value)} {as : List Addr} (I : L2.Inv X pins σ H s) (kv : KV kvs vs) (hz : kvs.length ≤ sizeLine)
    (up : ∀ b o, s.heap.get? b = some o → h'.get? b = some o) (len : as.length = vs.length) (G : PySem.W.KdxG (mixKind X.prog X.w) vs s.heap.objs.size h' as) (hS : h'.get? s.heap.objs.size = some { cls := .type "list", dict := none, data := .seq acc c, slots := #[] }) (ha : acc.toList = as.map Value.ref) :
    L2.Inv X pins σ (putF (objAt h') (upd H s.heap.objs.size (.lst (as.map V.ref))) as kvs) { s with heap := h', toks := tk } ∧ (∀ t ∈ as, H t = none) ∧ as.Nodup ∧ H s.heap.objs.size = none ∧ s.heap.objs.size ∉ as ∧ ∀ t ∈ as, (objAt h' t).dict = none := by
  have k0 : kvs.length = vs.length := Paired.length kv
  have nd : as.Nodup := G.rise.imp fun {x y} (z : x < y) => Nat.ne_of_lt z
  have away : s.heap.objs.size ∉ as := fun z => Nat.lt_irrefl _ (G.above _ z)
  have fresh : ∀ t ∈ as, H t = none := fun t ht => I.hok.fresh (Nat.le_of_lt (G.above t ht))
  have freshS : H s.heap.objs.size = none := I.hok.fresh (Nat.le_refl _)
  generalize hG : upd H s.heap.objs.size (.lst (as.map V.ref)) = G0
  have rest : ∀ b, b ∉ as → putF (objAt h') G0 as kvs b = G0 b := fun b hb => putF_off hb
  have at_ := putF_at (f := objAt h') (H := G0) (kvs := kvs) (ts := as) (by omega) nd
  have g0 : ∀ b, b ≠ s.heap.objs.size → G0 b = H b := fun b hb => by rw [← hG, upd_ne hb]
  have gS : G0 s.heap.objs.size = some (.lst (as.map V.ref)) := by rw [← hG, upd_same]
  have kp : ∀ b u, H b = some u → putF (objAt h') G0 as kvs b = some u := fun b u e => by
    rw [rest b (fun z => by rw [fresh b z] at e; cases e), g0 b (fun z => by rw [z, freshS] at e; cases e)]
    exact e
  have low : ∀ b o, s.heap.get? b = some o → b ∉ as ∧ b ≠ s.heap.objs.size := fun b o e => ⟨fun z => Nat.lt_irrefl _ (Nat.lt_trans (Heap.lt_size e) (G.above b z)), Nat.ne_of_lt (Heap.lt_size e)⟩
  have bare : ∀ t ∈ as, (objAt h' t).dict = none := fun t ht => by
    obtain ⟨j, hj⟩ := List.mem_iff_getElem?.mp ht
    obtain ⟨_, _, _, _, _, e⟩ := G.pairs j t hj
    unfold objAt
    rw [e]
    rfl
  refine ⟨?_, fresh, nd, freshS, away, bare⟩
  refine L2.Inv.call' (s' := { s with heap := h', toks := tk }) (ch := []) I rfl ?un ?ok I.bare (fun b z => by cases z)
  case un =>
    exact ⟨fun b o q _ _ _ => up b o q, fun b o q _ _ _ => ⟨o.slots, up b o q⟩, fun b o q n _ => by rw [rest b (low b o q).1, g0 b (low b o q).2]; exact n, fun b o q _ => ⟨o, up b o q⟩, fun b xs q => kp b _ q, fun b o u q => kp b _ q,
      fun b ps q => ⟨#[], by rw [kp b _ q]; simp⟩⟩
  case ok =>
    intro b u q
    by_cases hb : b ∈ as
    · obtain ⟨j, e, e1, e2, e3⟩ := LiI.paired_ix at_ hb
      rw [e3] at q
      cases q
      obtain ⟨key, k, x, g1, g2, g3⟩ := G.pairs j b e1
      obtain ⟨y, f1, f2, f3⟩ := LiI.paired_get kv e2
      rw [g1] at f1
      cases f1
      have rk : RelV (kV e.1) key := by
        rw [f2]
        exact relV_key (show keyIs k key = true from g2)
      have ob : objAt h' b = { cls := .type "tuple", data := .seq #[key, x] } := by
        unfold objAt
        rw [g3]
        rfl
      rw [ob]
      exact ⟨g3, by show 2 ≤ sizeLine; decide, [key, x], .cons rk (.cons f3 .nil), ⟨_, g3, rfl, _, rfl⟩⟩
    · rw [rest b hb] at q
      by_cases hb2 : b = s.heap.objs.size
      · rw [hb2] at q ⊢
        rw [gS] at q
        cases q
        refine ⟨by rw [List.length_map]; omega, as.map Value.ref, c, LiI.vals_refs as, ?_⟩
        rw [← ha, Array.toArray_toList]
        exact hS
      · rw [g0 b hb2] at q
        exact (I.hok b u q).stay (fun c v _ y => up c v y) (fun c y => kp c _ y) fun c xs y => kp c _ y
theorem cr_listIt (hc : X.calm = true) : CallR X (.type "list") rListIt := by
  intro pins s σ H xs us Q I r h
  obtain ⟨v, a, kvs, rfl, hp, ha, q⟩ := h
  obtain rfl := Vals.ref1 r
  have view : s.heap.IsItemsView v a := (show ObjOk X.prog X.w H s.heap v (DX.itemsO v a) from I.hok v _ hp).1
  obtain ⟨z, ns, vs, rel, dd⟩ := dk_rd I.hok ha
  have lk : kvs.length = vs.length := Paired.length rel
  obtain ⟨ep, hat⟩ := dd.dictAt
  refine PySem.W.kdx_call (knd := mixKind X.prog X.w) (kvs := vs) (ep := ep) (I.ok.hd hc) view hat (by omega) fun h' tk acc c as hk hS hl hG hacc => ?_
  obtain ⟨J, fr, nd, fs, aw, bare⟩ := list_told (tk := tk) I rel z hk hl hG hS hacc
  exact ⟨.ref _, _, J, rfl, q _ as (objAt h') (by omega) nd fr bare fs aw⟩
end
end Tr
set_option maxRecDepth 100000
set_option maxHeartbeats 4000000
namespace Tr
open PySem PySem.Spec PyProof.Rows L2 Tm PySem.W
variable [Cl] [Tt]
section
variable {d : Option Addr} {te : TE} {me : ME}
theorem sorted0_of {F H : Hp} {Q : VK} (wd : Wd d F H) {vs : List V} {ts : List T} (r : RTs F vs ts) (ok : okSort ts = true) (len : ts.length ≤ 16777216) (q : ∀ p ys, H p = none → RTs F ys (sortD ts) → Q (.ref p) (upd H p (.lst ys))) : rSorted0 Cl.K vs H Q := by
  unfold okSort at ok
  simp only [Bool.and_eq_true, Bool.or_eq_true] at ok
  obtain ⟨h1, h2, h3, h4⟩ := ok
  obtain ⟨cs, e1, e2, rc⟩ := rts_zip r
  have inn : ∀ c ∈ cs, c.2 ∈ ts := fun c hc => by rw [← e2]; exact List.mem_map.mpr ⟨c, hc, rfl⟩
  have dt : ∀ c ∈ cs, T.data c.2 = some (dOf c.2) := fun c hc => by
    obtain ⟨x, hx⟩ := Option.isSome_iff_exists.mp (List.all_eq_true.mp h1 _ (inn c hc))
    unfold dOf
    rw [hx]
    rfl
  have m2 : (cs.map fun c => (c.1, dOf c.2)).map (·.2) = ts.map dOf := by
    rw [List.map_map, ← e2, List.map_map]
    rfl
  refine ⟨cs.map fun c => (c.1, dOf c.2), ?_, fun b hb => ?_, ?_, ?_, fun b hb => ?_, ?_, fun p hp => ?_⟩
  · rw [List.map_map]
    exact e1
  · obtain ⟨c, hc, rfl⟩ := List.mem_map.mp hb
    exact dp_of wd (rc c hc) (dt c hc)
  · rw [m2]
    intro x hx y hy
    exact List.all_eq_true.mp (List.all_eq_true.mp h2 x hx) y hy
  · rw [m2]
    rcases h3 with h3 | h3
    · refine .inl fun x hx => ?_
      have := List.all_eq_true.mp h3 x hx
      cases x <;> first | exact ⟨_, rfl⟩ | cases this
    · refine .inr (.inr fun x hx => ?_)
      have := List.all_eq_true.mp h3 x hx
      cases x with
      | none => exact absurd this Bool.false_ne_true
      | tuple xs => exact absurd this Bool.false_ne_true
      | _ => exact ⟨(fun z => by cases z), (fun xs z => by cases z)⟩
  · obtain ⟨c, hc, rfl⟩ := List.mem_map.mp hb
    exact of_decide_eq_true (List.all_eq_true.mp h4 _ (inn c hc))
  · rw [List.length_map, ← List.length_map (f := fun c : V × T => c.2), e2, sizeLine_eq]
    exact len
  · have s1 : ((cs.map fun c => (c.1, dOf c.2)).mergeSort (dataLe false (·.2))) = (cs.mergeSort fun a b => leD a.2 b.2).map fun c => (c.1, dOf c.2) :=
      (sort_maps (fun c : V × T => (c.1, dOf c.2)) (l := cs) (r := fun a b => leD a.2 b.2) (s := dataLe false (·.2)) fun a _ b _ => rfl).symm
    have s2 : sortD ts = (cs.mergeSort fun a b => leD a.2 b.2).map (·.2) := by
      rw [sortD_eq, ← e2]
      exact (sort_maps (fun c : V × T => c.2) (l := cs) (r := fun a b => leD a.2 b.2) (s := leD) fun a _ b _ => rfl).symm
    have mem : ∀ c ∈ cs.mergeSort fun a b => leD a.2 b.2, RT F c.1 c.2 := fun c hc => rc c ((List.mergeSort_perm cs _).mem_iff.mp hc)
    rw [s1, List.map_map]
    refine q p _ hp ?_
    rw [s2]
    exact zip_rts mem
theorem up_puts {f : Addr → Obj} : ∀ {ts : List Addr} {kvs : List (Key × V)} {F H : Hp}, Wd d F H → ts.Nodup → (∀ t ∈ ts, H t = none) → Up d F H (putF f F ts kvs) (putF f H ts kvs)
  | [], _, F, H, w, _, _ => by unfold putF; exact Up.refl w
  | _ :: _, [], F, H, w, _, _ => Up.refl w
  | t :: ts, p :: kvs, F, H, w, nd, h => by
    have nd' := List.nodup_cons.mp nd
    have u := up_lay (o := .frz (f t) (.tup [kV p.1, p.2])) w (h t List.mem_cons_self)
    refine u.trans (up_puts u.wd nd'.2 fun x hx => ?_) w
    rw [upd_ne (fun z => nd'.1 (by rw [← z]; exact hx))]
    exact h x (List.mem_cons_of_mem _ hx)
theorem rts_pairs {F : Hp} {f : Addr → Obj} : ∀ {ts : List Addr} {kvs : List (Key × V)} {kts : List (Key × T)}, Paired (fun (t : Addr) (q : Key × V) => F t = some (.frz (f t) (.tup [kV q.1, q.2]))) ts kvs → (∀ t ∈ ts, (f t).dict = none) → RTd F kvs kts → RTs F (ts.map V.ref) (pairsT kts)
  | _, _, _, .nil, _, .nil => .nil
  | t :: ts, (k, v) :: kvs, _, .cons h p, z, r => by
    cases r with
    | cons r1 r2 =>
      rw [pairsT_eq]
      refine .cons (.tup (.inl ⟨_, z t List.mem_cons_self, h⟩) (.cons (kT_rt k) (.cons r1 .nil))) ?_
      rw [← pairsT_eq]
      exact rts_pairs p (fun x hx => z x (.tail _ hx)) r2
/-- sorted(d.items()) -/
def mSortIt (m : ME) : ME := fun σ k => m σ fun x => match x with
  | .dic kts => decide (kts.length ≤ 16777216) && (okSort (pairsT kts) && k (.lst (sortD (pairsT kts))))
  | _ => false
theorem o_sortIt (h : SE d te me) : SO d (tCB (rSortIt Cl.K) (tCons (tItR te) tNil)) (mSortIt me) := by
  intro F H σ σ' st k hk Q q
  refine h F H σ σ' st _ hk _ fun v x F1 H1 u1 r1 h1 => ?_
  split at h1
  · rename_i kts
    rw [Bool.and_eq_true, Bool.and_eq_true, decide_eq_true_eq] at h1
    obtain ⟨hl, ok, hk2⟩ := h1
    cases r1 with
    | @dic a kvs _ fd r =>
      refine ⟨a, kvs, rfl, rfl, rd_dic u1.wd fd, fun p hp => ?_⟩
      have u2 := up_new (o := DX.itemsO p a) u1.wd hp
      refine ⟨p, a, kvs, rfl, upd_same, rd_dic u2.wd fd, fun ts f len nd fr bare => ?_⟩
      have u3 := up_puts (f := f) (kvs := kvs) u2.wd nd fr
      have rr := RTd.mono u3.f r
      have u13 := (u1.trans u2 st.wd).trans u3 st.wd
      have pr : RTs (putF f F1 ts kvs) (ts.map V.ref) (pairsT kts) := rts_pairs (putF_at len nd) bare rr
      refine sorted0_of u3.wd pr ok ?_ fun l ys hn rs => ?_
      · rw [pairsT_eq, List.length_map]
        exact hl
      · exact q l _ _ _ (u13.trans (up_new u3.wd hn) st.wd) (none_back u13 st.wd hn) (f_none u3.wd hn) (show OwnAt _ (upd _ l _) l (.lst _) from ⟨_, upd_same, rs⟩) hk2
  · cases h1
/-- list(d.items()) -/
def mListIt (m : ME) : ME := fun σ k => m σ fun x => match x with
  | .dic kts => k (.lst (pairsT kts))
  | _ => false
theorem o_listIt (h : SE d te me) : SO d (tCB rListIt (tCons (tItR te) tNil)) (mListIt me) := by
  intro F H σ σ' st k hk Q q
  refine h F H σ σ' st _ hk _ fun v x F1 H1 u1 r1 h1 => ?_
  split at h1
  · rename_i kts
    cases r1 with
    | @dic a kvs _ fd r =>
      refine ⟨a, kvs, rfl, rfl, rd_dic u1.wd fd, fun p hp => ?_⟩
      have u2 := up_new (o := DX.itemsO p a) u1.wd hp
      refine ⟨p, a, kvs, rfl, upd_same, rd_dic u2.wd fd, fun l ts f len nd fr bare hn aw => ?_⟩
      have u3 := up_new (o := .lst (ts.map V.ref)) u2.wd hn
      have u4 := up_puts (f := f) (kvs := kvs) u3.wd nd fun t ht => by
        rw [upd_ne (fun z => aw (by rw [← z]; exact ht))]
        exact fr t ht
      have rr := RTd.mono u4.f r
      have u12 := u1.trans u2 st.wd
      have pr : RTs (putF f F1 ts kvs) (ts.map V.ref) (pairsT kts) := rts_pairs (putF_at len nd) bare rr
      have own : OwnAt (putF f F1 ts kvs) (putF f (upd (upd H1 p (DX.itemsO p a)) l (.lst (ts.map V.ref))) ts kvs) l (.lst (pairsT kts)) := ⟨_, by rw [putF_off aw, upd_same], pr⟩
      exact q l _ _ _ ((u12.trans u3 st.wd).trans u4 st.wd) (none_back u12 st.wd hn) (by rw [putF_off aw]; exact f_none u2.wd hn) own h1
  · cases h1
end
end Tr
set_option maxRecDepth 100000
set_option maxHeartbeats 4000000
/-! Trees: xs[::-1], slices of texts, xs * n. -/
namespace Tr
open PySem PySem.Spec PyProof.Rows L2 Tm
variable [Cl] [Tt]
section
variable {d : Option Addr} {te : TE} {me : ME}
theorem RTs.back {F : Hp} : ∀ {vs : List V} {ts : List T}, RTs F vs ts → RTs F vs.reverse ts.reverse
  | _, _, .nil => .nil
  | _, _, .cons h r => by
    rw [List.reverse_cons, List.reverse_cons]
    exact r.back.append (.cons h .nil)
def mRevL (m : ME) : ME := fun σ k => m σ fun x => match x with
  | .lst ts => k (.lst ts.reverse)
  | _ => false
theorem o_revL (h : SE d te me) : SO d (tRevL Cl.K te) (mRevL me) := by
  intro F H σ σ' st k hk Q q
  refine h F H σ σ' st _ hk _ fun v x F1 H1 u1 r1 h1 => ?_
  split at h1
  · cases r1 with
    | lst f r => exact ⟨_, _, rfl, rd_sql u1.wd f, fun p hp => q p _ F1 _ (u1.trans (up_new u1.wd hp) st.wd) (none_back u1 st.wd hp) (f_none u1.wd hp) (show OwnAt F1 (upd H1 p _) p (.lst _) from ⟨_, upd_same, r.back⟩) h1⟩
  · cases h1
def mSlS (m : ME) (lo hi : MO) : ME := fun σ k => m σ fun x => lo σ fun a => hi σ fun b => match x with
  | .str z => decide (z.length ≤ 16777216) && k (.str (cutS z a b))
  | _ => false
theorem s_slS {tl th : TO} {ml mh : MO} (h : SE d te me) (hl : SOp d tl ml) (hh : SOp d th mh) : SE d (tSl rSlS te tl th) (mSlS me ml mh) := by
  intro F H σ σ' st k hk Q q
  refine h F H σ σ' st _ hk _ fun v x F1 H1 u1 r1 h1 => ?_
  refine hl F1 H1 σ σ' (st.up u1) _ h1 _ fun a F2 H2 u2 h2 => ?_
  have u12 := u1.trans u2 st.wd
  refine hh F2 H2 σ σ' (st.up u12) _ h2 _ fun b F3 H3 u3 h3 => ?_
  have u13 := u12.trans u3 st.wd
  split at h3
  · rw [Bool.and_eq_true, decide_eq_true_eq] at h3
    cases r1
    exact ⟨_, rfl, by rw [sizeLine_eq]; exact h3.1, q _ _ F3 H3 u13 (.str _) h3.2⟩
  · cases h3
def oRep : O2 := fun x y k => match x, y with
  | .lst a, .int n => decide (-9223372036854775808 ≤ n) && (decide (n < 9223372036854775808) && (decide (a.length * n.toNat ≤ 16777216) && k (.lst (List.replicate n.toNat a).flatten)))
  | _, _ => false
theorem rts_rep {F : Hp} {vs : List V} {ts : List T} (r : RTs F vs ts) : ∀ n : Nat, RTs F (List.replicate n vs).flatten (List.replicate n ts).flatten
  | 0 => .nil
  | n + 1 => by
    rw [List.replicate_succ, List.replicate_succ, List.flatten_cons, List.flatten_cons]
    exact r.append (rts_rep r n)
theorem on_rep : OpN d rRep oRep := by
  intro F H v w x y wd rx ry k hk Q q
  unfold oRep at hk
  split at hk
  · rename_i a n
    simp only [Bool.and_eq_true, decide_eq_true_eq] at hk
    obtain ⟨h1, h2, h3, hk⟩ := hk
    cases ry
    cases rx with
    | lst e1 r1 =>
      refine ⟨_, n, _, rfl, rfl, rd_lst wd e1, by simpa using h1, by simpa using h2, by rw [r1.len, sizeLine_eq]; exact h3, fun p hp => ?_⟩
      exact q p _ F _ (up_new wd hp) hp (f_none wd hp) (show OwnAt F (upd H p _) p (.lst _) from ⟨_, upd_same, rts_rep r1 _⟩) hk
  · cases hk
end
section
variable {d : Option Addr} {pz : Bool} {ta tb tc : TE} {ma mb mc : ME}
theorem rts3 {F : Hp} {vs : List V} {x y z : T} (r : RTs F vs [x, y, z]) : ∃ u v w, vs = [u, v, w] ∧ RT F u x ∧ RT F v y ∧ RT F w z := by
  cases r with
  | cons a r => cases r with
    | cons b r => cases r with
      | cons c r => cases r; exact ⟨_, _, _, rfl, a, b, c⟩
def mPar3 (i j l : Nat) (m : MA) : MS := fun σ k => m σ fun xs => match xs with
  | [x, y, z] => k (.nx (((σ.set i (.val x)).set j (.val y)).set l (.val z)))
  | _ => false
theorem z_par3 {i j l : Nat} {t : TA} {m : MA} (h : SA d t m) (hz : pz = false ∨ (i ≠ 0 ∧ j ≠ 0 ∧ l ≠ 0)) : SSt d pz (tPar3 i j l t) (mPar3 i j l m) := by
  intro pn hp B Z bo F H σ σ' s _ k hk D e
  refine h F H σ σ' s.st _ hk _ fun vs xs F1 H1 u1 r1 h1 => ?_
  have s1 := s.up bo u1
  split at h1
  · rename_i x y z
    obtain ⟨u, v, w, rfl, r, q, p⟩ := rts3 r1
    refine ⟨u, v, w, rfl, e.nx F1 H1 _ _ ⟨s1.b, ((s1.st.setVal i r).setVal j q).setVal l p, fun n t o a b => ?_, fun a ha => ?_⟩ h1⟩
    · obtain ⟨a0, b0⟩ := ownLe_set (s := .val z) (fun _ z => nomatch z) n t o a b
      obtain ⟨a1, b1⟩ := ownLe_set (s := .val y) (fun _ z => nomatch z) n t o a0 b0
      obtain ⟨a2, b2⟩ := ownLe_set (s := .val x) (fun _ z => nomatch z) n t o a1 b1
      exact s1.oz n t o a2 b2
    · rcases hz with z | ⟨z1, z2, z3⟩
      · rw [hp z] at ha
        cases ha
      · rw [List.getElem?_set_ne z3, List.getElem?_set_ne z2, List.getElem?_set_ne z1]
        exact s1.pin a ha
  · cases h1
def mPar3O (i j l : Nat) (ma mb mc : ME) : MS := fun σ k => ma σ fun x => mb σ fun y => mc σ fun z => k (.nx (((σ.set i (.own x)).set j (.val y)).set l (.val z)))
theorem z_par3O {i j l : Nat} (ha : SO d ta ma) (hb : SE d tb mb) (hc : SE d tc mc) (hz : pz = false ∨ (i ≠ 0 ∧ j ≠ 0 ∧ l ≠ 0)) : SSt d pz (tPar3 i j l (tCons ta (tCons tb (tCons tc tNil)))) (mPar3O i j l ma mb mc) := by
  intro pn hp B Z bo F H σ σ' s _ k hk D e
  refine ha F H σ σ' s.st _ hk _ fun p x F1 H1 u1 n1 n2 o h1 => ?_
  have s1 := s.up bo u1
  refine hb F1 H1 σ σ' s1.st _ h1 _ fun v y F2 H2 u2 r2 h2 => ?_
  have s2 := s1.up bo u2
  refine hc F2 H2 σ σ' s2.st _ h2 _ fun w z F3 H3 u3 r3 h3 => ?_
  have s3 := s2.up bo u3
  have c := tape_nn s.st.wd n1
  obtain ⟨ob, hp1⟩ := o.some
  have hp2 : H2 p = some ob := u2.keep p ob c (o.nt hp1) hp1
  have hp3 : H3 p = some ob := u3.keep p ob c (o.nt hp1) hp2
  have o2 : OwnAt F2 H2 p x := o.mono u2.f (by rw [hp1, hp2])
  have o' : OwnAt F3 H3 p x := o2.mono u3.f (by rw [hp2, hp3])
  have nf2 : F2 p = none := by rw [u2.fresh p (by rw [hp1]; exact fun z => nomatch z)]; exact n2
  have nf' : F3 p = none := by rw [u3.fresh p (by rw [hp2]; exact fun z => nomatch z)]; exact nf2
  have no1 := noOwn_new s.st n1
  have st3 := sts_own (i := i) s3.st o' nf' c fun j t q _ a b => no1 j t q a b
  refine ⟨.ref p, v, w, rfl, e.nx F3 H3 _ _ ⟨s3.b, (st3.setVal j (r2.mono u3.f)).setVal l r3, fun n t q a b => ?_, fun a ha => ?_⟩ h3⟩
  · obtain ⟨a0, b0⟩ := ownLe_set (s := .val z) (fun _ z => nomatch z) n t q a b
    obtain ⟨a1, b1⟩ := ownLe_set (s := .val y) (fun _ z => nomatch z) n t q a0 b0
    exact oz_own s3.oz (bo.new F H p s.b s.st.wd n1) n t q a1 b1
  · rcases hz with z | ⟨z1, z2, z3⟩
    · rw [hp z] at ha
      cases ha
    · rw [List.getElem?_set_ne z3, List.getElem?_set_ne z2, List.getElem?_set_ne z1]
      exact s3.pin a ha
end
end Tr
set_option maxRecDepth 100000
set_option maxHeartbeats 4000000
/-! sorted(set(xs)), xs a list or a tuple of tuples. -/
namespace Tr
open PySem PySem.Spec PyProof.Rows
section
variable {P : Program} {w : World} {A : Around} {E : Value → Shared → Prop} {s : Shared} {l S : Addr}
/-- the set at S holds what the first i of ks are, each once -/
def HoldsK (w : World) (S : Addr) (ks : List KA) (i : Nat) (h : Heap) : Prop := ∃ L t, SetIs w h S L t ∧ (∀ p ∈ L, p ∈ ks.take i) ∧ ∀ p ∈ ks.take i, p.2 ∈ L.map Prod.snd
theorem holdsK_new {h : Heap} (ks : List KA) (ho : h.get? S = some (bareSet w)) : HoldsK w S ks 0 h := by
  refine ⟨[], _, ⟨⟨_, 0, ho, ⟨rfl, rfl, rfl⟩, rfl⟩, ⟨List.Pairwise.nil, rfl, rfl, .inl rfl, fun x hx => (by cases hx), fun i h j hi => (by simp at hi)⟩, List.nodup_nil, ?_, (by decide : 0 * 5 < 7 * 3), (by decide : 0 < 64)⟩, (fun p hp => by cases hp), fun p hp => by simp at hp⟩
  show _ ∨ (!w.params.followText "set-order") = true
  cases w.params.followText "set-order" <;> simp
theorem holdsK_keep {ks : List KA} {i : Nat} {h h' : Heap} (x : HoldsK w S ks i h) (k : ∀ o, h.get? S = some o → h'.get? S = some o) : HoldsK w S ks i h' := by
  obtain ⟨L, t, ⟨⟨o, ep, ho, r⟩, b, c, d, e, f⟩, y⟩ := x
  exact ⟨L, t, ⟨⟨o, ep, k o ho, r⟩, b, c, d, e, f⟩, y⟩
theorem holdsK_add {ks : List KA} {i : Nat} {x : KA} (few : ∃ D : List NestedKey, D.length < 64 ∧ ∀ p ∈ ks, p.2 ∈ D) (at_ : ks[i]? = some x) (kd : ∀ p ∈ ks, Keyed s.heap p) (hu : A.units + 8 < cLine) (x0 : HoldsK w S ks i s.heap) {Q : Bool → Shared → Prop}
    (q : ∀ b h' tk, Heap.SameBut S s.heap h' → HoldsK w S ks (i + 1) h' → s.toks ≤ tk → Q b { s with heap := h', toks := tk }) : wpAny (model P w) A (setAdd S (.ref x.1)) Q E s := by
  obtain ⟨L, t, R, sub, all⟩ := x0
  have hx := kd x (List.mem_of_getElem? at_)
  have nx : ks.take (i + 1) = ks.take i ++ [x] := by rw [List.take_succ, at_]; rfl
  unfold setAdd
  refine wpAny_holding (wpAny_bind (pyHash_key _ _ _ _ _ hx.1 (by have := hx.2; omega) ?_))
  refine put_in (s := { s with toks := s.toks + x.2.draws }) R (fun p hp => kd p (List.mem_of_mem_take (sub p hp))) hx hu (fun new => ?_) fun b h' L' t' sb R' c1 c2 => q b h' _ sb ⟨L', t', R', fun p hp => ?_, fun p hp => ?_⟩ (Nat.le_add_right _ _)
  · obtain ⟨D, hD, hin⟩ := few
    have nd : (x.2 :: L.map Prod.snd).Nodup := List.nodup_cons.mpr ⟨new, R.uq⟩
    have le := List.Nodup.length_le_of_subset nd (l₂ := D) fun k hk => by
      rcases List.mem_cons.mp hk with rfl | hk
      · exact hin x (List.mem_of_getElem? at_)
      · obtain ⟨p, hp, rfl⟩ := List.mem_map.mp hk
        exact hin p (List.mem_of_mem_take (sub p hp))
    rw [List.length_cons, List.length_map] at le
    omega
  · rw [nx]
    rcases Classical.em (x.2 ∈ L.map Prod.snd) with c | c
    · rw [c1 c] at hp
      exact List.mem_append_left _ (sub p hp)
    · rcases List.mem_cons.mp ((c2 c).mem_iff.mp hp) with rfl | hp
      · exact List.mem_append_right _ (List.mem_singleton.mpr rfl)
      · exact List.mem_append_left _ (sub p hp)
  · rw [nx] at hp
    rcases Classical.em (x.2 ∈ L.map Prod.snd) with c | c
    · rw [c1 c]
      rcases List.mem_append.mp hp with hp | hp
      · exact all p hp
      · rw [List.mem_singleton.mp hp]; exact c
    · rw [((c2 c).map Prod.snd).mem_iff, List.map_cons]
      rcases List.mem_append.mp hp with hp | hp
      · exact List.mem_cons_of_mem _ (all p hp)
      · rw [List.mem_singleton.mp hp]; exact List.mem_cons_self
theorem set_keys {its : Array Value} (calm : A.handled = none) (seq : s.heap.IsList l its ∨ s.heap.IsTuple l its) (ks : List KA) (are : its.toList = ks.map fun p => Value.ref p.1) (kd : ∀ p ∈ ks, Keyed s.heap p) (few : ∃ D : List NestedKey, D.length < 64 ∧ ∀ p ∈ ks, p.2 ∈ D)
    (hu : A.units + 12 < cLine) {Q : Value → Shared → Prop} (q : ∀ h tk, HoldsK w s.heap.objs.size ks ks.length h → (∀ b o, s.heap.get? b = some o → h.get? b = some o) → Q (.ref s.heap.objs.size) { s with heap := h, toks := tk }) :
    wpAny (model P w) A (call (.type "set") [.ref l]) Q E s := by
  have sz : its.size = ks.length := by
    rw [← Array.length_toList, are, List.length_map]
  refine set_made calm seq (Part := HoldsK w s.heap.objs.size ks) (fun h => holdsK_new ks) (fun i h h' => holdsK_keep) (fun i v t E Q lt hv old x0 q => ?_) fun h tk x k => q h tk (by rw [← sz]; exact x) k
  have hv2 : (ks.map fun p => Value.ref p.1)[i]? = some v := by rw [← are, Array.getElem?_toList]; exact hv
  rw [List.getElem?_map] at hv2
  cases e : ks[i]? with
  | none => rw [e] at hv2; cases hv2
  | some x =>
    rw [e] at hv2
    cases hv2
    exact holdsK_add few e (fun p hp => (kd p hp).keep fun b o us n hb _ => old b o hb) (by show A.units + 1 + 1 + 1 + 8 < cLine; omega) x0 q
/-- what the set holds comes out in some sequence -/
theorem collect_keys {ks : List KA} {i : Nat} (calm : A.handled = none) (x : HoldsK w S ks i s.heap) {Q : List Value → Shared → Prop}
    (q : ∀ (s' : Shared) (L : List KA), (∀ b o, s.heap.get? b = some o → s'.heap.get? b = some o) → s'.gens = s.gens → s'.os = s.os → (∀ p ∈ L, p ∈ ks.take i) → (∀ p ∈ ks.take i, p.2 ∈ L.map Prod.snd) → (L.map Prod.snd).Nodup → L.length < 64 → Q (L.map fun p => Value.ref p.1) s') :
    wpAny (model P w) A (collect (.ref S)) Q E s := by
  obtain ⟨L, t, R, sub, all⟩ := x
  obtain ⟨o, ep, ho, hex, hd⟩ := id R.ob
  have room := R.room
  refine L2.collect_set calm ⟨o, ho, hex.1, hd⟩ (fits_of R.tab (by omega)) (by rw [arrK_size]; have := R.few; unfold scanBound; omega) R.tab.ris R.led fun s' out k _ g os pm => ?_
  have eL : (arrK w L).toList = L.map (rowK w) := List.toList_toArray
  rw [eL, List.map_map] at pm
  -- the values are those of the items, turned about
  obtain ⟨L', rfl, pm'⟩ : ∃ L' : List KA, L'.map (fun p => Value.ref p.1) = out ∧ L'.Perm L := by
    have key : ∀ {us vs : List Value}, us.Perm vs → ∀ M : List KA, M.map (fun p => Value.ref p.1) = vs → ∃ M' : List KA, M'.map (fun p => Value.ref p.1) = us ∧ M'.Perm M := by
      intro us vs h
      induction h with
      | nil => exact fun M e => ⟨M, e, .refl _⟩
      | cons x _ ih =>
        intro M e
        cases M with
        | nil => cases e
        | cons m M =>
          cases e
          obtain ⟨M', e', p'⟩ := ih M rfl
          exact ⟨m :: M', by rw [List.map_cons, e'], p'.cons m⟩
      | swap x y l =>
        intro M e
        match M, e with
        | m :: n :: M, e =>
          cases e
          exact ⟨n :: m :: M, rfl, .swap m n M⟩
      | trans _ _ ih1 ih2 =>
        intro M e
        obtain ⟨M1, e1, p1⟩ := ih2 M e
        obtain ⟨M2, e2, p2⟩ := ih1 M1 e1
        exact ⟨M2, e2, p2.trans p1⟩
    exact key pm L rfl
  exact q s' L' k g os (fun p hp => sub p (pm'.mem_iff.mp hp)) (fun p hp => (pm'.map Prod.snd).mem_iff.mpr (all p hp)) ((pm'.map Prod.snd).nodup_iff.mpr R.uq) (by rw [pm'.length_eq]; exact R.few)
end
/-! keys of trees -/
mutual
/-- the key that data are; only numbers, texts and tuples of them -/
def keyD : PyData → Option NestedKey
  | .int i => some (.num i)
  | .str z => some (.text z)
  | .tuple ds => match keysD ds with
    | some ks => some (.tup ks)
    | none => none
  | _ => none
def keysD : List PyData → Option (List NestedKey)
  | [] => some []
  | d :: ds => match keyD d, keysD ds with
    | some k, some ks => some (k :: ks)
    | _, _ => none
end
mutual
theorem isKey {h : Heap} : ∀ (d : PyData) (k : NestedKey) (v : Value) (as : List Addr), Reads h v d as → keyD d = some k → NestedIs h k v
  | .int i, k, v, _, r, e => by cases r; cases e; exact .int _ _
  | .str z, k, v, _, r, e => by cases r; cases e; exact .text _ _
  | .tuple ds, k, v, _, r, e => by
    cases r with
    | tuple e1 e2 e3 e4 =>
      unfold keyD at e
      split at e
      · rename_i ks ek
        cases e
        exact .tup e1 e2 e3 (isKeys ds ks _ _ e4 ek)
      · cases e
  | .none, _, _, _, _, e => by cases e
  | .bool _, _, _, _, _, e => by cases e
  | .list _, _, _, _, _, e => by cases e
  | .dict _, _, _, _, _, e => by cases e
theorem isKeys {h : Heap} : ∀ (ds : List PyData) (ks : List NestedKey) (vs : List Value) (as : List Addr), ReadsAll h vs ds as → keysD ds = some ks → NestedAll h ks vs
  | [], _, _, _, r, e => by cases r; cases e; exact .nil
  | d :: ds, ks, _, _, r, e => by
    cases r with
    | cons r1 r2 =>
      unfold keysD at e
      split at e
      · rename_i k ks' e1 e2
        cases e
        exact .cons (isKey d k _ _ r1 e1) (isKeys ds ks' _ _ r2 e2)
      · cases e
end
theorem keyD_data : ∀ (d : PyData) (k : NestedKey), keyD d = some k → k.data = d := by
  suffices h : (∀ (d : PyData) (k : NestedKey), keyD d = some k → k.data = d) ∧ True from h.1
  refine ⟨fun d => ?_, trivial⟩
  refine PyData.rec (motive_1 := fun d => ∀ k, keyD d = some k → k.data = d) (motive_2 := fun ds => ∀ ks, keysD ds = some ks → NestedKey.datas ks = ds) (motive_3 := fun _ => True) (motive_4 := fun _ => True) ?_ ?_ ?_ ?_ ?_ ?_ ?_ ?_ ?_ ?_ ?_ ?_ d
  · intro k e; cases e
  · intro b k e; cases e
  · intro i k e; cases e; rfl
  · intro z k e; cases e; rfl
  · intro xs _ k e; cases e
  · intro xs ih k e
    unfold keyD at e
    split at e
    · rename_i ks ek
      cases e
      show PyData.tuple _ = _
      rw [ih ks ek]
    · cases e
  · intro kvs _ k e; cases e
  · intro ks e; cases e; rfl
  · intro d ds ih1 ih2 ks e
    unfold keysD at e
    split at e
    · rename_i k ks' e1 e2
      cases e
      show NestedKey.data k :: NestedKey.datas ks' = _
      rw [ih1 k e1, ih2 ks' e2]
    · cases e
  · trivial
  · intros; trivial
  · intros; trivial
section
open L2
variable {X : Cx}
abbrev adr : V → Addr
  | .ref a => a
  | _ => 0
def kaOf (b : V × PyData) : KA := (adr b.1, (keyD b.2).getD .none)
/-- sorted(set(xs)) -/
def tSortSet (K : PySem.W.Frag) (ta : TE) : TE := fun σ H Q => ta σ H fun x H1 => ∃ (l : Addr) (bs : List (V × PyData)), x = .ref l ∧ (SqL K H1 l (bs.map (·.1)) ∨ SqT K H1 l (bs.map (·.1))) ∧ (∀ b ∈ bs, Dp K H1 b.1 b.2 ∧ (∃ ds, b.2 = .tuple ds) ∧ ∃ k, keyD b.2 = some k ∧ k.depth ≤ 8) ∧
  (∃ D : List NestedKey, D.length < 64 ∧ ∀ b ∈ bs, ∃ k ∈ D, keyD b.2 = some k) ∧ ∀ cs : List (V × PyData), (∀ c ∈ cs, c ∈ bs) → (∀ b ∈ bs, b.2 ∈ cs.map (·.2)) → (cs.map (·.2)).Nodup → cs.length < 64 → rSorted0 K (cs.map (·.1)) H1 Q
theorem dp_ref {K : PySem.W.Frag} {H : Hp} {v : V} {ds : List PyData} (h : Dp K H v (.tuple ds)) : v = .ref (adr v) := by
  cases h
  rfl
theorem pe_sortSet {a : Expr} {ta : TE} {p p2 q pos : Pos} (hc : X.calm = true) (hu : X.A.units + 64 < cLine) (g1 : Gl X "sorted") (m1 : X.mg "sorted" = none) (g2 : Gl X "set") (m2 : X.mg "set" = none) (ha : PE X a ta)
    (na : starEach [a] X.env = (false, eval a X.env) :: starEach [] X.env := by rfl) : PE X (.Call (.Name "sorted" p) [.Call (.Name "set" p2) [a] [] q] [] pos) (tSortSet X.K ta) := by
  refine ⟨fun pins s σ H Q I h => ?_⟩
  refine Call_ (ld_blt I g1 m1 (by decide +kernel : bootBuiltins "sorted" = some (.builtin "sorted")) (PyProof.Rows.callWith_builtin1 (PyProof.Rows.args_cons ?_ rfl) rfl rfl))
  refine Call_ (ld_blt I g2 m2 boot_set (PyProof.Rows.callWith_type1 (PyProof.Rows.args_cons ?_ na) na rfl))
  refine thn (ha.run pins s σ H _ I h) fun v s1 ⟨x, H1, I1, r1, l, bs, ex, hq, hd, few, q1⟩ => PyProof.Rows.args_nil ?_
  subst ex
  cases r1
  have back : ∀ b ∈ bs, (V.ref (kaOf b).1, (kaOf b).2.data) = b := fun b hb => by
    obtain ⟨dp, ⟨ds, e⟩, k, ek, _⟩ := hd b hb
    obtain ⟨v, d⟩ := b
    simp only at e
    subst e
    unfold kaOf
    rw [ek]
    simp only [Option.getD_some]
    rw [keyD_data _ _ ek, ← dp_ref dp]
  obtain ⟨its, seq, rv⟩ : ∃ its : List Value, (s1.heap.IsList l its.toArray ∨ s1.heap.IsTuple l its.toArray) ∧ Vals (bs.map (·.1)) its := by
    rcases hq with hq | hq
    · obtain ⟨its, r, pl, _⟩ := I1.list hq
      exact ⟨its, .inl pl.isList, r⟩
    · obtain ⟨its, r, pl, _⟩ := I1.tuple hq
      exact ⟨its, .inr pl, r⟩
  have are : its = (bs.map kaOf).map fun p => Value.ref p.1 := by
    have key : ∀ (cs : List (V × PyData)) (us : List Value), (∀ c ∈ cs, c ∈ bs) → Vals (cs.map (·.1)) us → us = (cs.map kaOf).map fun p => Value.ref p.1 := by
      intro cs
      induction cs with
      | nil => intro us _ r; cases r; rfl
      | cons c cs ih =>
        intro us hs r
        cases r with
        | cons r1 r2 =>
          have e := congrArg Prod.fst (back c (hs c List.mem_cons_self))
          replace r1 : RelV c.1 _ := r1
          rw [← e] at r1
          cases r1
          rw [ih _ (fun x hx => hs x (.tail _ hx)) r2]
          rfl
    exact key bs its (fun _ h => h) rv
  have kd : ∀ p ∈ bs.map kaOf, Keyed s1.heap p := fun p hp => by
    obtain ⟨b, hb, rfl⟩ := List.mem_map.mp hp
    obtain ⟨dp, _, k, ek, dk⟩ := hd b hb
    have rb : RelV b.1 (.ref (kaOf b).1) := by
      have e := congrArg Prod.fst (back b hb)
      rw [← e]
      rfl
    obtain ⟨as, rd⟩ := Dp.reads I1 _ _ _ dp rb
    have := isKey b.2 k _ as rd ek
    unfold kaOf at *
    rw [ek]
    exact ⟨this, dk⟩
  refine set_keys (P := X.prog) (w := X.w) (I1.ok.hd hc) seq (bs.map kaOf) (by simpa using are) kd ?_ (by omega) fun h tk hold kept => PyProof.Rows.args_nil ?_
  · obtain ⟨D, hD, hin⟩ := few
    refine ⟨D, hD, fun p hp => ?_⟩
    obtain ⟨b, hb, rfl⟩ := List.mem_map.mp hp
    obtain ⟨k, hk, ek⟩ := hin b hb
    unfold kaOf
    rw [ek]
    exact hk
  have I2 : Inv X pins σ H1 { s1 with heap := h, toks := tk } := I1.kept kept
  refine Calls.call_function_entry PyProof.Rows.kind_sorted PyProof.Rows.plain_sorted PyProof.Rows.entry_sorted (PyProof.Rows.args_sorted1 _) ?_
  unfold Builtin.«sorted»
  refine wpAny_bind (m := checkCount "sorted" 1 1 _) (wpAny_pure ?_)
  refine wpAny_bind (collect_keys (A := X.A.in1) (s := { s1 with heap := h, toks := tk }) (I1.ok.hd hc) hold fun s' L k g os sub all nd few => ?_)
  rw [List.take_length] at sub all
  have J : Inv X pins σ H1 s' := I2.call' (ch := []) os (Un.kept k) (I2.hok.kept k) (by rw [g]; exact I2.bare) (fun b z => by cases z)
  have fromB : ∀ p ∈ L, (V.ref p.1, p.2.data) ∈ bs := fun p hp => by
    obtain ⟨b, hb, rfl⟩ := List.mem_map.mp (sub p hp)
    rw [back b hb]
    exact hb
  have q2 : rSorted0 X.K (L.map fun p => V.ref p.1) H1 Q := by
    have := q1 (L.map fun p => (V.ref p.1, p.2.data)) (fun c hc => ?_) (fun b hb => ?_) ?_ (by rw [List.length_map]; exact few)
    · rw [List.map_map] at this
      exact this
    · obtain ⟨p, hp, rfl⟩ := List.mem_map.mp hc
      exact fromB p hp
    · obtain ⟨p, hp, e⟩ := List.mem_map.mp (all (kaOf b) (List.mem_map.mpr ⟨b, hb, rfl⟩))
      refine List.mem_map.mpr ⟨_, List.mem_map.mpr ⟨p, hp, rfl⟩, ?_⟩
      show p.2.data = b.2
      rw [e]
      exact congrArg Prod.snd (back b hb)
    · rw [List.map_map]
      show (L.map fun p => p.2.data).Nodup
      have inj : ∀ p ∈ L, ∀ q ∈ L, p.2.data = q.2.data → p.2 = q.2 := fun p hp q hq e => by
        obtain ⟨b, hb, rfl⟩ := List.mem_map.mp (sub p hp)
        obtain ⟨c, hc, rfl⟩ := List.mem_map.mp (sub q hq)
        have e1 := congrArg Prod.snd (back b hb)
        have e2 := congrArg Prod.snd (back c hc)
        have e3 : b.2 = c.2 := by rw [← e1, ← e2]; exact e
        unfold kaOf
        rw [e3]
      refine List.pairwise_map.mpr (List.Pairwise.imp_of_mem (fun {p q} hp hq hne e => ?_) (List.pairwise_map.mp nd))
      exact hne (inj p hp q hq e)
  have sz : (L.map fun p => Value.ref p.1).length ≤ sizeLine := by rw [List.length_map, sizeLine_eq]; omega
  refine wpAny_bind (wpAny_newList ?_ sz)
  have at2 : (s'.heap.push (PyProof.Rows.seqObj "list" (L.map fun p => Value.ref p.1).toArray 0)).get? s'.heap.objs.size = some (PyProof.Rows.seqObj "list" (L.map fun p => Value.ref p.1).toArray 0) := Heap.get?_push_size _ rfl
  have vr : Vals (L.map fun p => V.ref p.1) (L.map fun p => Value.ref p.1) := by
    have := LiI.vals_refs (L.map Prod.fst)
    rwa [List.map_map, List.map_map] at this
  refine wpAny_bind (wpAny_holding (wpAny_call_entry PyProof.Rows.slot_list_sort ⟨_, at2, rfl⟩ PyProof.Rows.entry_list_sort
    (sort_new (s := s') J vr (by show X.A.units + 1 + 1 + 62 < cLine; omega) q2 fun s2 ep' => ⟨_, rfl, wpAny_pure ⟨_, rfl, ep'⟩⟩) (PyProof.Rows.args_list_sort _)))
end
end Tr
set_option maxRecDepth 100000
set_option maxHeartbeats 4000000
/-! Trees: sorted(set(xs)). -/
namespace Tr
open PySem PySem.Spec PyProof.Rows L2 Tm PySem.W
mutual
/-- the tree that a key is -/
def tK : NestedKey → T
  | .none => .non
  | .num i => .int i
  | .text z => .str z
  | .tup ks => .tup (tKs ks)
def tKs : List NestedKey → List T
  | [] => []
  | k :: ks => tK k :: tKs ks
end
mutual
/-- no loose tuple within -/
def bareT : T → Bool
  | .tup ts => bareTs ts
  | .tpl _ => false
  | _ => true
def bareTs : List T → Bool
  | [] => true
  | t :: ts => bareT t && bareTs ts
end
mutual
theorem tK_of : ∀ (t : T) (d : PyData) (k : NestedKey), bareT t = true → T.data t = some d → keyD d = some k → tK k = t
  | .non, _, _, _, h, e => by cases h; cases e
  | .bl _, _, _, _, h, e => by cases h; cases e
  | .int _, _, _, _, h, e => by cases h; cases e; rfl
  | .str _, _, _, _, h, e => by cases h; cases e; rfl
  | .tpl _, _, _, b, _, _ => by cases b
  | .tup ts, _, _, b, h, e => by
    unfold T.data at h
    split at h
    · rename_i ds hd
      cases h
      unfold keyD at e
      split at e
      · rename_i ks ek
        cases e
        show T.tup (tKs ks) = _
        rw [tKs_of ts ds ks b hd ek]
      · cases e
    · cases h
  | .lst ts, _, _, _, h, e => by
    unfold T.data at h
    split at h
    · cases h; cases e
    · cases h
  | .dic _, _, _, _, h, _ => by cases h
  | .ins _ _, _, _, _, h, _ => by cases h
  | .ty _, _, _, _, h, _ => by cases h
  | .cls _, _, _, _, h, _ => by cases h
  | .tape, _, _, _, h, _ => by cases h
theorem tKs_of : ∀ (ts : List T) (ds : List PyData) (ks : List NestedKey), bareTs ts = true → T.datas ts = some ds → keysD ds = some ks → tKs ks = ts
  | [], _, _, _, h, e => by
    unfold T.datas at h
    cases h
    cases e
    rfl
  | t :: ts, _, _, b, h, e => by
    unfold bareTs at b
    rw [Bool.and_eq_true] at b
    unfold T.datas at h
    split at h
    · rename_i d ds h1 h2
      cases h
      unfold keysD at e
      split at e
      · rename_i k ks e1 e2
        cases e
        show tK k :: tKs ks = _
        rw [tK_of t d k b.1 h1 e1, tKs_of ts ds ks b.2 h2 e2]
      · cases e
    · cases h
end
/-- the key of a tree -/
def keyT2 (t : T) : Option NestedKey := if bareT t then (match T.data t with
  | some d => keyD d
  | none => none) else none
theorem keyT2_of {t : T} {k : NestedKey} (h : keyT2 t = some k) : ∃ d, T.data t = some d ∧ keyD d = some k ∧ tK k = t ∧ dOf t = d ∧ k.data = d := by
  unfold keyT2 at h
  split at h
  · rename_i b
    split at h
    · rename_i d hd
      exact ⟨d, hd, h, tK_of t d k b hd h, by unfold dOf; rw [hd]; rfl, keyD_data d k h⟩
    · cases h
  · cases h
def keysT2 : List T → Option (List NestedKey)
  | [] => some []
  | t :: ts => match keyT2 t, keysT2 ts with
    | some k, some ks => some (k :: ks)
    | _, _ => none
theorem keysT2_mem : ∀ {ts : List T} {ks : List NestedKey}, keysT2 ts = some ks → ∀ t ∈ ts, ∃ k ∈ ks, keyT2 t = some k
  | t :: ts, _, h, u, hu => by
    unfold keysT2 at h
    split at h
    · rename_i k ks h1 h2
      cases h
      rcases List.mem_cons.mp hu with rfl | hu
      · exact ⟨k, List.mem_cons_self, h1⟩
      · obtain ⟨k', m, e⟩ := keysT2_mem h2 u hu
        exact ⟨k', .tail _ m, e⟩
    · cases h
theorem keysT2_mem' : ∀ {ts : List T} {ks : List NestedKey}, keysT2 ts = some ks → ∀ k ∈ ks, ∃ t ∈ ts, keyT2 t = some k
  | [], _, h, u, hu => by cases h; cases hu
  | t :: ts, _, h, u, hu => by
    unfold keysT2 at h
    split at h
    · rename_i k ks h1 h2
      cases h
      rcases List.mem_cons.mp hu with rfl | hu
      · exact ⟨t, List.mem_cons_self, h1⟩
      · obtain ⟨k', m, e⟩ := keysT2_mem' h2 u hu
        exact ⟨k', .tail _ m, e⟩
    · cases h
/-- each key once -/
def onceK : List NestedKey → List NestedKey
  | [] => []
  | k :: ks => (fun r => if r.any (NestedKey.beq k) then r else k :: r) (onceK ks)
theorem any_beq {k : NestedKey} {r : List NestedKey} : r.any (NestedKey.beq k) = true ↔ k ∈ r := by
  rw [List.any_eq_true]
  constructor
  · rintro ⟨u, hu, e⟩
    rw [NestedKey.eq_of_beq _ _ e]
    exact hu
  · exact fun h => ⟨k, h, NestedKey.beq_self k⟩
theorem onceK_mem : ∀ {ks : List NestedKey} {u : NestedKey}, u ∈ onceK ks ↔ u ∈ ks
  | [], u => Iff.rfl
  | k :: ks, u => by
    unfold onceK
    dsimp only
    split
    · rename_i h
      rw [any_beq] at h
      rw [onceK_mem, List.mem_cons]
      refine ⟨.inr, fun z => z.elim (fun z => ?_) id⟩
      rw [z]
      exact onceK_mem.mp h
    · rw [List.mem_cons, List.mem_cons, onceK_mem]
theorem onceK_nodup : ∀ ks : List NestedKey, (onceK ks).Nodup
  | [] => List.nodup_nil
  | k :: ks => by
    unfold onceK
    dsimp only
    split
    · exact onceK_nodup ks
    · rename_i h
      rw [any_beq] at h
      exact List.nodup_cons.mpr ⟨h, onceK_nodup ks⟩
section
variable [Cl] [Tt]
/-- each stands strictly ahead of the next one -/
def strictD : List T → Bool
  | x :: y :: l => !leD y x && strictD (y :: l)
  | _ => true
theorem strictD_all : ∀ {l : List T}, strictD l = true → l.Pairwise fun x y => leD y x = false
  | [], _ => .nil
  | [x], _ => by simp
  | x :: y :: l, h => by
    unfold strictD at h
    rw [Bool.and_eq_true, Bool.not_eq_true'] at h
    have ih := strictD_all h.2
    have xy : leD x y = true := by
      rcases leD_total.total x y with z | z
      · exact z
      · rw [h.1] at z; cases z
    refine List.pairwise_cons.mpr ⟨fun z hz => ?_, ih⟩
    rcases List.mem_cons.mp hz with rfl | hz
    · exact h.1
    · have yz := (List.pairwise_cons.mp ih).1 z hz
      cases c : leD z x with
      | false => rfl
      | true =>
        rw [leD_total.trans _ _ _ c xy] at yz
        cases yz
theorem pair_anti : ∀ {l : List T}, l.Pairwise (fun x y => leD y x = false) → ∀ a ∈ l, ∀ b ∈ l, leD a b = true → leD b a = true → a = b
  | x :: l, h, a, ha, b, hb, h1, h2 => by
    rw [List.pairwise_cons] at h
    rcases List.mem_cons.mp ha with ea | ha
    · rcases List.mem_cons.mp hb with eb | hb
      · rw [ea, eb]
      · rw [ea, h.1 b hb] at h2; cases h2
    · rcases List.mem_cons.mp hb with eb | hb
      · rw [eb, h.1 a ha] at h1; cases h1
      · exact pair_anti h.2 a ha b hb h1 h2
theorem sortD_perm (l : List T) : (sortD l).Perm l := by
  rw [sortD_eq]
  exact List.mergeSort_perm l leD
theorem sortD_same {l m : List T} (p : l.Perm m) (h : strictD (sortD m) = true) : sortD l = sortD m := by
  have q : (sortD l).Perm (sortD m) := ((sortD_perm l).trans p).trans (sortD_perm m).symm
  exact List.Perm.eq_of_pairwise (le := fun a b => leD a b = true) (fun a b ha hb h1 h2 => pair_anti (strictD_all h) a (q.mem_iff.mp ha) b hb h1 h2) (sortD_sorted l) (sortD_sorted m) q
end
def isTupK : NestedKey → Bool
  | .tup _ => true
  | _ => false
/-- what may stand in a set that is sorted -/
def okSet (ks : List NestedKey) : Bool := decide (ks.length < 64) && (ks.all (fun k => isTupK k && decide (k.depth ≤ 8)) && (likeB (ks.map NestedKey.data) && ks.all fun k => decide (k.data.depth ≤ 60)))
def seqOf : T → Option (List T)
  | .lst ts => some ts
  | .tup ts => some ts
  | _ => none
def setSorted (ts : List T) : Option (List T) := match keysT2 ts with
  | some ks => (fun o => if okSet o then (fun r => if strictD r then some r else none) (sortD (o.map tK)) else none) (onceK ks)
  | none => none
section
variable [Cl] [Tt] {d : Option Addr} {ta : TE} {ma : ME}
def mSortSet (m : ME) : ME := fun σ k => m σ fun x => match seqOf x with
  | some ts => match setSorted ts with
    | some r => k (.lst r)
    | none => false
  | none => false
theorem setSorted_of {ts r : List T} (h : setSorted ts = some r) : ∃ ks, keysT2 ts = some ks ∧ okSet (onceK ks) = true ∧ strictD r = true ∧ r = sortD ((onceK ks).map tK) := by
  unfold setSorted at h
  split at h
  · rename_i ks hk
    dsimp only at h
    split at h
    · rename_i h1
      split at h
      · rename_i h2
        cases h
        exact ⟨ks, hk, h1, h2, rfl⟩
      · cases h
    · cases h
  · cases h
theorem o_sortSet (h : SE d ta ma) : SO d (tSortSet Cl.K ta) (mSortSet ma) := by
  intro F H σ σ' st k hk Q q
  refine h F H σ σ' st _ hk _ fun v x F1 H1 u1 r1 h1 => ?_
  split at h1
  · rename_i ts es
    split at h1
    · rename_i r er
      obtain ⟨ks, ek, ok, stri, rfl⟩ := setSorted_of er
      unfold okSet at ok
      simp only [Bool.and_eq_true, decide_eq_true_eq] at ok
      obtain ⟨few, tups, like, deep⟩ := ok
      obtain ⟨l, vs, rfl, sq, rs⟩ : ∃ l vs, v = .ref l ∧ (SqL Cl.K H1 l vs ∨ SqT Cl.K H1 l vs) ∧ RTs F1 vs ts := by
        cases r1 with
        | lst e r => cases es; exact ⟨_, _, rfl, .inl (rd_sql u1.wd e), r⟩
        | tup e r => cases es; exact ⟨_, _, rfl, .inr (rd_sqt u1.wd e), r⟩
        | _ => cases es
      obtain ⟨cs, e1, e2, rc⟩ := rts_zip rs
      have key : ∀ c ∈ cs, ∃ k ∈ ks, keyT2 c.2 = some k := fun c hc => keysT2_mem ek c.2 (by rw [← e2]; exact List.mem_map.mpr ⟨c, hc, rfl⟩)
      have tupK : ∀ k ∈ ks, isTupK k = true ∧ k.depth ≤ 8 := fun k hk => by
        have := List.all_eq_true.mp tups k (onceK_mem.mpr hk)
        rwa [Bool.and_eq_true, decide_eq_true_eq] at this
      have tupD : ∀ k ∈ ks, ∃ ds, k.data = .tuple ds := fun k hk => by
        have := (tupK k hk).1
        cases k with
        | tup us => exact ⟨_, rfl⟩
        | _ => cases this
      refine ⟨l, cs.map fun c => (c.1, dOf c.2), rfl, ?_, fun b hb => ?_, ⟨onceK ks, few, fun b hb => ?_⟩, fun bs sub all nd lt => ?_⟩
      · rw [List.map_map]
        show SqL Cl.K H1 l (cs.map fun c => c.1) ∨ SqT Cl.K H1 l (cs.map fun c => c.1)
        rw [e1]
        exact sq
      · obtain ⟨c, hc, rfl⟩ := List.mem_map.mp hb
        obtain ⟨k, hk, e⟩ := key c hc
        obtain ⟨dd, z1, z2, z3, z4, z5⟩ := keyT2_of e
        obtain ⟨ds, z6⟩ := tupD k hk
        refine ⟨dp_of u1.wd (rc c hc) (by rw [z4]; exact z1), ⟨ds, by show dOf c.2 = _; rw [z4, ← z5, z6]⟩, k, by show keyD (dOf c.2) = _; rw [z4]; exact z2, (tupK k hk).2⟩
      · obtain ⟨c, hc, rfl⟩ := List.mem_map.mp hb
        obtain ⟨k, hk, e⟩ := key c hc
        obtain ⟨dd, z1, z2, z3, z4, z5⟩ := keyT2_of e
        exact ⟨k, onceK_mem.mpr hk, by show keyD (dOf c.2) = _; rw [z4]; exact z2⟩
      · -- each of them is one of the trees
        have from_ : ∀ b ∈ bs, ∃ c ∈ cs, ∃ k ∈ ks, b = (c.1, dOf c.2) ∧ keyT2 c.2 = some k ∧ tK k = c.2 ∧ dOf c.2 = k.data ∧ keyD b.2 = some k := fun b hb => by
          obtain ⟨c, hc, rfl⟩ := List.mem_map.mp (sub b hb)
          obtain ⟨k, hk, e⟩ := key c hc
          obtain ⟨dd, z1, z2, z3, z4, z5⟩ := keyT2_of e
          exact ⟨c, hc, k, hk, rfl, e, z3, by rw [z4, z5], by show keyD (dOf c.2) = _; rw [z4]; exact z2⟩
        let tr : V × PyData → T := fun b => match keyD b.2 with
          | some k => tK k
          | none => .non
        have tr_of : ∀ b ∈ bs, ∃ k ∈ ks, tr b = tK k ∧ RT F1 b.1 (tr b) ∧ dOf (tr b) = b.2 ∧ keyD b.2 = some k ∧ k.data = b.2 := fun b hb => by
          obtain ⟨c, hc, k, hk, e, z1, z2, z3, z4⟩ := from_ b hb
          have et : tr b = tK k := by
            show (match keyD b.2 with | some k => tK k | none => T.non) = tK k
            rw [z4]
          refine ⟨k, hk, et, ?_, ?_, z4, ?_⟩
          · rw [et, z2, e]
            exact rc c hc
          · rw [et, z2, e]
          · rw [e, ← z3]
        have pm : (bs.map tr).Perm ((onceK ks).map tK) := by
          have p1 : (bs.map fun b => b.2).Perm ((onceK ks).map NestedKey.data) := by
            refine (List.perm_ext_iff_of_nodup nd ?_).mpr fun x => ?_
            · refine List.pairwise_map.mpr (List.Pairwise.imp_of_mem (fun {a b} ha hb hne e => hne ?_) (onceK_nodup ks))
              obtain ⟨t1, _, w1⟩ := keysT2_mem' ek a (onceK_mem.mp ha)
              obtain ⟨t2, _, w2⟩ := keysT2_mem' ek b (onceK_mem.mp hb)
              obtain ⟨d1, y1, y2, _, _, y3⟩ := keyT2_of w1
              obtain ⟨d2, x1, x2, _, _, x3⟩ := keyT2_of w2
              rw [y3, x3] at e
              rw [e, x2] at y2
              exact (Option.some.inj y2).symm
            · constructor
              · intro hx
                obtain ⟨b, hb, rfl⟩ := List.mem_map.mp hx
                obtain ⟨k, hk, _, _, _, _, e⟩ := tr_of b hb
                exact List.mem_map.mpr ⟨k, onceK_mem.mpr hk, e⟩
              · intro hx
                obtain ⟨k, hk, rfl⟩ := List.mem_map.mp hx
                obtain ⟨t, ht, e⟩ := keysT2_mem' ek k (onceK_mem.mp hk)
                rw [← e2] at ht
                obtain ⟨c, hc, rfl⟩ := List.mem_map.mp ht
                obtain ⟨dd, z1, z2, z3, z4, z5⟩ := keyT2_of e
                have := all (c.1, dOf c.2) (List.mem_map.mpr ⟨c, hc, rfl⟩)
                rw [z5, ← z4]
                exact this
          have p2 := p1.map fun x => match keyD x with
            | some k => tK k
            | none => T.non
          rw [List.map_map, List.map_map] at p2
          have e3 : ((onceK ks).map ((fun x => match keyD x with | some k => tK k | none => T.non) ∘ NestedKey.data)) = (onceK ks).map tK := List.map_congr_left fun k hk => by
            obtain ⟨t, _, e⟩ := keysT2_mem' ek k (onceK_mem.mp hk)
            obtain ⟨dd, z1, z2, z3, z4, z5⟩ := keyT2_of e
            show (match keyD k.data with | some k => tK k | none => T.non) = tK k
            rw [z5, z2]
          rw [e3] at p2
          exact p2
        refine ⟨bs, rfl, fun b hb => ?_, ?_, .inl fun x hx => ?_, fun b hb => ?_, by rw [sizeLine_eq]; omega, fun p hp => ?_⟩
        · obtain ⟨c, hc, k, hk, rfl, z1, z2, z3, z4⟩ := from_ b hb
          obtain ⟨dd, y1, y2, y3, y4, y5⟩ := keyT2_of z1
          exact dp_of u1.wd (rc c hc) (by rw [y4]; exact y1)
        · intro x hx y hy
          obtain ⟨b, hb, rfl⟩ := List.mem_map.mp hx
          obtain ⟨b', hb', rfl⟩ := List.mem_map.mp hy
          obtain ⟨k, hk, _, _, _, _, w1⟩ := tr_of b hb
          obtain ⟨k', hk', _, _, _, _, w2⟩ := tr_of b' hb'
          rw [← w1, ← w2]
          exact List.all_eq_true.mp (List.all_eq_true.mp like _ (List.mem_map.mpr ⟨k, onceK_mem.mpr hk, rfl⟩)) _ (List.mem_map.mpr ⟨k', onceK_mem.mpr hk', rfl⟩)
        · obtain ⟨b, hb, rfl⟩ := List.mem_map.mp hx
          obtain ⟨k, hk, _, _, _, _, w1⟩ := tr_of b hb
          rw [← w1]
          exact tupD k hk
        · obtain ⟨k, hk, _, _, _, _, w1⟩ := tr_of b hb
          rw [← w1]
          exact of_decide_eq_true (List.all_eq_true.mp deep k (onceK_mem.mpr hk))
        · have s1 : (bs.mergeSort (dataLe false (·.2))).map tr = sortD ((onceK ks).map tK) := by
            rw [← sortD_same pm stri, sortD_eq]
            refine sort_maps tr (l := bs) (r := dataLe false (·.2)) (s := leD) fun a ha b hb => ?_
            obtain ⟨_, _, _, _, w1, _⟩ := tr_of a ha
            obtain ⟨_, _, _, _, w2, _⟩ := tr_of b hb
            unfold leD
            rw [w1, w2]
            rfl
          have mem : ∀ b ∈ bs.mergeSort (dataLe false (·.2)), b ∈ bs := fun b hb => (List.mergeSort_perm bs _).mem_iff.mp hb
          have rr : RTs F1 ((bs.mergeSort (dataLe false (·.2))).map (·.1)) (sortD ((onceK ks).map tK)) := by
            rw [← s1]
            have := zip_rts (F := F1) (cs := (bs.mergeSort (dataLe false (·.2))).map fun b => (b.1, tr b)) fun c hc => by
              obtain ⟨b, hb, rfl⟩ := List.mem_map.mp hc
              obtain ⟨_, _, _, z, _⟩ := tr_of b (mem b hb)
              exact z
            rwa [List.map_map, List.map_map] at this
          have u2 := up_new (o := .lst ((bs.mergeSort (dataLe false (·.2))).map (·.1))) u1.wd hp
          exact q p _ F1 _ (u1.trans u2 st.wd) (none_back u1 st.wd hp) (f_none u1.wd hp) (show OwnAt F1 (upd H1 p _) p (.lst _) from ⟨_, upd_same, rr⟩) h1
    · cases h1
  · cases h1
end
end Tr
set_option maxRecDepth 100000
set_option maxHeartbeats 4000000
/-! Sets of texts: sorted(set(xs)), len(set(xs)). -/
namespace Tr
open PySem PySem.Spec PyProof.Rows
section
variable {P : Program} {w : World} {A : Around} {E : Value → Shared → Prop} {s : Shared} {l S : Addr}
/-- the set at S holds the texts l -/
structure TxtIs (P : Program) (w : World) (h : Heap) (S : Addr) (l : List Str) (D : Froz.SD) : Prop where
  ob : h.get? S = some (Froz.sObj "set" D)
  ok : Froz.TxOk P w D l
  uq : l.Nodup
  ris : L2.Ris D.2.2.place.toList
  led : w.params.followText "set-order" = true ∨ D.2.2.led = true
theorem tail_tab {ep : Nat} {es : Array (Int × Value)} {t : SetTable} {d : Bool} (r : L2.Ris t.place.toList) : L2.Ris (Froz.tailTx ep es t d).2.2.place.toList ∧ (Froz.tailTx ep es t d).2.2.led = t.led := by
  unfold Froz.tailTx
  split
  · exact ⟨L2.relayAll_ris _ _ _, L2.relayAll_led _ _ _⟩
  · exact ⟨r, rfl⟩
theorem addTx_tab {h : Int} {v : Value} {D : Froz.SD} (r : L2.Ris D.2.2.place.toList) : L2.Ris (Froz.addTx h v D).2.2.place.toList ∧ (Froz.addTx h v D).2.2.led = D.2.2.led := by
  have r1 := L2.layNew_ris D.2.2 D.1 h v r
  have r2 := L2.layNew_led D.2.2 D.1 h v
  unfold Froz.addTx
  by_cases c : (layNew D.2.2 D.1 h v).2.1.plain = true
  · rw [if_pos c]
    obtain ⟨a, b⟩ := tail_tab (ep := D.2.1) (es := (layNew D.2.2 D.1 h v).1) (t := { (layNew D.2.2 D.1 h v).2.1 with plain := false }) (d := (layNew D.2.2 D.1 h v).2.2.1) r1
    exact ⟨a, b.trans r2⟩
  · rw [if_neg c]
    obtain ⟨a, b⟩ := tail_tab (ep := D.2.1) (es := (layNew D.2.2 D.1 h v).1) (t := (layNew D.2.2 D.1 h v).2.1) (d := (layNew D.2.2 D.1 h v).2.2.1) r1
    exact ⟨a, b.trans r2⟩
theorem perm_of_cover : ∀ {l ys : List Str}, l.Nodup → (∀ z ∈ l, z ∈ ys) → ys.length ≤ l.length → ys.Perm l
  | [], ys, _, _, h => by
    cases ys with
    | nil => exact .refl _
    | cons _ _ => cases h
  | x :: l, ys, nd, all, h => by
    obtain ⟨nx, nd⟩ := List.nodup_cons.mp nd
    have hx := all x List.mem_cons_self
    have p := List.perm_cons_erase hx
    refine p.trans ((perm_of_cover nd (fun z hz => ?_) ?_).cons x)
    · exact (List.mem_erase_of_ne fun e => nx (by rw [← e]; exact hz)).mpr (all z (.tail _ hz))
    · have e := List.length_erase_of_mem hx
      rw [List.length_cons] at h
      omega
/-- a text that is there already -/
theorem again_x {a : Addr} {D : Froz.SD} {l : List Str} {k : Str} {u : Tok} {Q : Bool → Shared → Prop} (ho : s.heap.get? a = some (Froz.sObj "set" D)) (F : Froz.TxOk P w D l) (hk : k ∈ l) (hb : l.length < scanBound) (q : Q false s) :
    wpAny (model P w) A (setAddHashed a (.str k u) (hashStr w k)) Q E s := by
  obtain ⟨es, ep, t⟩ := D
  have hkey : (strKind P w).is k (.str k u) = true := Froz.is_str k u
  have hsz : es.size = l.length := F.sz
  obtain ⟨j, hj⟩ : ∃ j, List.findIdx? (fun e => (strKind P w).is k e.2) es.toList = some j := by
    obtain ⟨e, he, z⟩ := (F.mem k).mp hk
    cases hr : List.findIdx? (fun e => (strKind P w).is k e.2) es.toList with
    | some j => exact ⟨j, rfl⟩
    | none =>
      rw [List.findIdx?_eq_none_iff] at hr
      rw [hr e he] at z
      cases z
  unfold setAddHashed setAddHashedIn
  refine wpAny_holding (wpAny_bind (wpAny_setState_of ho rfl F.fit ?_))
  dsimp only
  have hb0 : es.size < scanBound := by omega
  rw [byScan_of rfl hb0 F.el]
  simp only [↓reduceIte]
  unfold setAddByScan
  refine wpAny_bind (wpAny_bind (wpAny_rule (wpAny_bind (wpAny_setScan_of (knd := strKind P w) (k := k) hkey ho rfl F.fit F.el ?_))))
  rw [hj]
  dsimp only
  exact wpAny_pure (wpAny_pure q)
def HoldsS (P : Program) (w : World) (S : Addr) (zs : List Str) (i : Nat) (h : Heap) : Prop := ∃ l D, TxtIs P w h S l D ∧ ∀ z, z ∈ l ↔ z ∈ zs.take i
theorem holdsS_new {h : Heap} (zs : List Str) (ho : h.get? S = some (bareSet w)) : HoldsS P w S zs 0 h := by
  refine ⟨[], (#[], 0, .fresh 0 0 (!w.params.followText "set-order")), ⟨ho, Froz.TxOk.nil (by rfl), List.nodup_nil, List.Pairwise.nil, ?_⟩, fun z => by simp⟩
  show _ ∨ (!w.params.followText "set-order") = true
  cases w.params.followText "set-order" <;> simp
theorem holdsS_keep {zs : List Str} {i : Nat} {h h' : Heap} (x : HoldsS P w S zs i h) (k : ∀ o, h.get? S = some o → h'.get? S = some o) : HoldsS P w S zs i h' := by
  obtain ⟨l, D, ⟨a, b, c, d, e⟩, f⟩ := x
  exact ⟨l, D, ⟨k _ a, b, c, d, e⟩, f⟩
theorem holdsS_add {zs : List Str} {i : Nat} {z : Str} {u : Tok} (few : zs.length + 1 < scanBound) (at_ : zs[i]? = some z) (x0 : HoldsS P w S zs i s.heap) {Q : Bool → Shared → Prop}
    (q : ∀ b h' tk, Heap.SameBut S s.heap h' → HoldsS P w S zs (i + 1) h' → s.toks ≤ tk → Q b { s with heap := h', toks := tk }) : wpAny (model P w) A (setAdd S (.str z u)) Q E s := by
  obtain ⟨l, D, R, mem⟩ := x0
  have nx : zs.take (i + 1) = zs.take i ++ [z] := by rw [List.take_succ, at_]; rfl
  have small : l.length ≤ zs.length := by
    have := List.Nodup.length_le_of_subset R.uq (l₂ := zs) fun y hy => List.mem_of_mem_take ((mem y).mp hy)
    exact this
  unfold setAdd
  refine wpAny_holding (wpAny_bind ((strKind P w).pyHash (k := z) (strKind_is _ _ _ _) ?_))
  by_cases c : z ∈ l
  · refine again_x (s := { s with toks := s.toks + 1 }) R.ob R.ok c (by omega) ?_
    refine q false s.heap _ (Heap.SameBut.refl S s.heap) ⟨l, D, R, fun y => ?_⟩ (Nat.le_succ _)
    rw [nx, List.mem_append, List.mem_singleton, mem y]
    exact ⟨.inl, fun h => h.elim id fun e => by rw [e]; exact (mem z).mp c⟩
  · refine Froz.add_x (s := { s with toks := s.toks + 1 }) R.ob R.ok c (by omega) ?_
    refine q true _ _ (Heap.SameBut.update ..) ⟨z :: l, _, ⟨Froz.get_upd _ R.ob rfl, Froz.add_ok u R.ok, List.nodup_cons.mpr ⟨c, R.uq⟩, (addTx_tab R.ris).1, by rw [(addTx_tab R.ris).2]; exact R.led⟩, fun y => ?_⟩ (Nat.le_succ _)
    rw [nx, List.mem_append, List.mem_singleton, List.mem_cons, mem y]
    exact Or.comm
theorem set_strs {its : Array Value} {zs : List Str} (calm : A.handled = none) (seq : s.heap.IsList l its ∨ s.heap.IsTuple l its) (are : StrsAre its.toList zs) (few : zs.length + 1 < scanBound)
    {Q : Value → Shared → Prop} (q : ∀ h tk, HoldsS P w s.heap.objs.size zs zs.length h → (∀ b o, s.heap.get? b = some o → h.get? b = some o) → Q (.ref s.heap.objs.size) { s with heap := h, toks := tk }) :
    wpAny (model P w) A (call (.type "set") [.ref l]) Q E s := by
  have sz : its.size = zs.length := by
    rw [← Array.length_toList]
    exact StrsAre.len_eq are
  refine set_made calm seq (Part := HoldsS P w s.heap.objs.size zs) (fun h => holdsS_new zs) (fun i h h' => holdsS_keep) (fun i v t E Q lt hv old x0 q => ?_) fun h tk x k => q h tk (by rw [← sz]; exact x) k
  obtain ⟨u, rfl⟩ := SS.strs_at are i v (by rw [Array.getElem?_toList]; exact hv)
  have e : zs[i]? = some (zs.getD i Str.empty) := by
    rw [List.getD_eq_getElem?_getD, List.getElem?_eq_getElem (by omega : i < zs.length)]
    rfl
  exact holdsS_add few e x0 q
theorem collect_strs {zs : List Str} (calm : A.handled = none) (few : zs.length + 1 < scanBound) (x : HoldsS P w S zs zs.length s.heap) {Q : List Value → Shared → Prop}
    (q : ∀ (s' : Shared) (ys : List Str) (out : List Value), (∀ b o, s.heap.get? b = some o → s'.heap.get? b = some o) → s'.gens = s.gens → s'.os = s.os → ys.Nodup → (∀ z, z ∈ ys ↔ z ∈ zs) → StrsAre out ys → Q out s') :
    wpAny (model P w) A (collect (.ref S)) Q E s := by
  obtain ⟨l, D, R, mem⟩ := x
  obtain ⟨es, ep, t⟩ := D
  rw [List.take_length] at mem
  have small : l.length ≤ zs.length := List.Nodup.length_le_of_subset R.uq (l₂ := zs) fun y hy => (mem y).mp hy
  have hsz : es.size = l.length := R.ok.sz
  refine L2.collect_set calm ⟨_, R.ob, rfl, rfl⟩ R.ok.fit (by show es.size < scanBound; omega) R.ris R.led fun s' out k _ g os pm => ?_
  -- each value is a text of l
  have el := R.ok.el
  have each : ∀ v ∈ out, ∃ z u, v = .str z u ∧ z ∈ l := fun v hv => by
    obtain ⟨e, he, rfl⟩ := List.mem_map.mp (pm.mem_iff.mp hv)
    obtain ⟨⟨z, hz, _⟩, _⟩ := el e he
    have := (R.ok.mem z).mpr ⟨e, he, hz⟩
    obtain ⟨u, hu⟩ := (show ∃ u, e.2 = .str z u from by
      have z2 : Value.isStrOf z e.2 = true := hz
      cases e2 : e.2 with
      | str y u =>
        rw [e2] at z2
        simp [Value.isStrOf] at z2
        exact ⟨u, by rw [z2]⟩
      | _ => rw [e2] at z2; simp [Value.isStrOf] at z2)
    exact ⟨z, u, hu, this⟩
  obtain ⟨ys, ar⟩ : ∃ ys, StrsAre out ys ∧ ∀ z ∈ ys, z ∈ l := by
    have key : ∀ vs : List Value, (∀ v ∈ vs, ∃ z u, v = .str z u ∧ z ∈ l) → ∃ ys, StrsAre vs ys ∧ ∀ z ∈ ys, z ∈ l := by
      intro vs
      induction vs with
      | nil => exact fun _ => ⟨[], .nil, fun z h => by cases h⟩
      | cons v vs ih =>
        intro h
        obtain ⟨z, u, rfl, hz⟩ := h v List.mem_cons_self
        obtain ⟨ys, a1, a2⟩ := ih fun x hx => h x (.tail _ hx)
        refine ⟨z :: ys, .cons z u a1, fun y hy => ?_⟩
        rcases List.mem_cons.mp hy with rfl | hy
        · exact hz
        · exact a2 y hy
    exact key out each
  have back : ∀ {vs : List Value} {ys : List Str}, StrsAre vs ys → ∀ z, z ∈ ys ↔ ∃ u, Value.str z u ∈ vs := by
    intro vs ys a
    induction a with
    | nil => exact fun z => ⟨fun h => (by cases h), fun ⟨u, h⟩ => (by cases h)⟩
    | cons y u _ ih =>
      intro z
      rw [List.mem_cons, ih z]
      constructor
      · rintro (rfl | ⟨u', h⟩)
        · exact ⟨u, List.mem_cons_self⟩
        · exact ⟨u', .tail _ h⟩
      · rintro ⟨u', h⟩
        rcases List.mem_cons.mp h with h | h
        · cases h; exact .inl rfl
        · exact .inr ⟨u', h⟩
  have all : ∀ z ∈ l, z ∈ ys := fun z hz => by
    obtain ⟨e, he, q⟩ := (R.ok.mem z).mp hz
    have z2 : Value.isStrOf z e.2 = true := q
    have hv : e.2 ∈ out := pm.mem_iff.mpr (List.mem_map.mpr ⟨e, he, rfl⟩)
    cases e2 : e.2 with
    | str y u =>
      rw [e2] at z2 hv
      simp [Value.isStrOf] at z2
      subst z2
      exact (back ar.1 _).mpr ⟨u, hv⟩
    | _ => rw [e2] at z2; simp [Value.isStrOf] at z2
  have len : ys.length = l.length := by
    have h1 := StrsAre.len_eq ar.1
    have h2 : out.length = es.size := by
      rw [pm.length_eq, List.length_map]
      exact Array.length_toList
    show ys.length = _
    omega
  have nd : ys.Nodup := (perm_of_cover R.uq all (by omega)).nodup_iff.mpr R.uq
  exact q s' ys out k g os nd (fun z => by rw [← mem z]; exact ⟨ar.2 z, all z⟩) ar.1
end
end Tr
set_option maxRecDepth 100000
set_option maxHeartbeats 4000000
/-! Sets of texts as trees. -/
namespace Tr
open PySem PySem.Spec PyProof.Rows L2 Tm PySem.W
section
variable {X : Cx}
/-- each text once -/
def onceZ : List Str → List Str
  | [] => []
  | z :: zs => (fun r => if r.any (eqZ z) then r else z :: r) (onceZ zs)
theorem any_eqZ [Cl] [Tt] {z : Str} {r : List Str} : r.any (eqZ z) = true ↔ z ∈ r := by
  rw [List.any_eq_true]
  constructor
  · rintro ⟨u, hu, e⟩
    rw [eqZ_eq, decide_eq_true_eq] at e
    rw [e]
    exact hu
  · exact fun h => ⟨z, h, by rw [eqZ_eq, decide_eq_true_eq]⟩
theorem onceZ_mem [Cl] [Tt] : ∀ {zs : List Str} {u : Str}, u ∈ onceZ zs ↔ u ∈ zs
  | [], u => Iff.rfl
  | z :: zs, u => by
    unfold onceZ
    dsimp only
    split
    · rename_i h
      rw [any_eqZ] at h
      rw [onceZ_mem, List.mem_cons]
      refine ⟨.inr, fun c => c.elim (fun c => ?_) id⟩
      rw [c]
      exact onceZ_mem.mp h
    · rw [List.mem_cons, List.mem_cons, onceZ_mem]
theorem onceZ_nodup [Cl] [Tt] : ∀ zs : List Str, (onceZ zs).Nodup
  | [] => List.nodup_nil
  | z :: zs => by
    unfold onceZ
    dsimp only
    split
    · exact onceZ_nodup zs
    · rename_i h
      rw [any_eqZ] at h
      exact List.nodup_cons.mpr ⟨h, onceZ_nodup zs⟩
def SeqS (K : PySem.W.Frag) (H : Hp) (x : V) (zs : List Str) : Prop := ∃ l, x = .ref l ∧ (SqL K H l (zs.map V.str) ∨ SqT K H l (zs.map V.str))
/-- set(xs), xs texts, and what is done with it next -/
theorem set_strs_of {pins : List (Addr × Obj)} {σ : L2.St} {H : Hp} {s : Shared} {x : V} {u : Value} {zs : List Str} {A : Around} {E : Value → Shared → Prop} {Q : Value → Shared → Prop} (calm : A.handled = none) (I : Inv X pins σ H s) (rx : RelV x u) (h : SeqS X.K H x zs) (few : zs.length + 1 < scanBound)
    (q : ∀ h tk, HoldsS X.prog X.w s.heap.objs.size zs zs.length h → (∀ b o, s.heap.get? b = some o → h.get? b = some o) → Q (.ref s.heap.objs.size) { s with heap := h, toks := tk }) : wpAny (model X.prog X.w) A (call (.type "set") [u]) Q E s := by
  obtain ⟨l, rfl, sq⟩ := h
  cases rx
  rcases sq with sq | sq
  · obtain ⟨its, r, pl, _⟩ := I.list sq
    exact set_strs calm (.inl pl.isList) (by simpa using strsAre_of r) few q
  · obtain ⟨its, r, pl, _⟩ := I.tuple sq
    exact set_strs calm (.inr pl) (by simpa using strsAre_of r) few q
/-- sorted(set(xs)) of texts -/
def tSortSetS (K : PySem.W.Frag) (ta : TE) : TE := fun σ H Q => ta σ H fun x H1 => ∃ zs : List Str, SeqS K H1 x zs ∧ zs.length + 1 < 4096 ∧ ∀ ys : List Str, ys.Nodup → (∀ z, z ∈ ys ↔ z ∈ zs) → rSorted0 K (ys.map V.str) H1 Q
theorem vals_strs : ∀ {out : List Value} {ys : List Str}, StrsAre out ys → Vals (ys.map V.str) out
  | _, _, .nil => .nil
  | _, _, .cons z u r => .cons ⟨u, rfl⟩ (vals_strs r)
theorem pe_sortSetS {a : Expr} {ta : TE} {p p2 q pos : Pos} (hc : X.calm = true) (hu : X.A.units + 64 < cLine) (g1 : Gl X "sorted") (m1 : X.mg "sorted" = none) (g2 : Gl X "set") (m2 : X.mg "set" = none) (ha : PE X a ta)
    (na : starEach [a] X.env = (false, eval a X.env) :: starEach [] X.env := by rfl) : PE X (.Call (.Name "sorted" p) [.Call (.Name "set" p2) [a] [] q] [] pos) (tSortSetS X.K ta) := by
  refine ⟨fun pins s σ H Q I h => ?_⟩
  refine Call_ (ld_blt I g1 m1 (by decide +kernel : bootBuiltins "sorted" = some (.builtin "sorted")) (PyProof.Rows.callWith_builtin1 (PyProof.Rows.args_cons ?_ rfl) rfl rfl))
  refine Call_ (ld_blt I g2 m2 boot_set (PyProof.Rows.callWith_type1 (PyProof.Rows.args_cons ?_ na) na rfl))
  refine thn (ha.run pins s σ H _ I h) fun v s1 ⟨x, H1, I1, r1, zs, sq, few, q1⟩ => PyProof.Rows.args_nil ?_
  refine set_strs_of (I1.ok.hd hc) I1 r1 sq few fun h tk hold kept => PyProof.Rows.args_nil ?_
  have I2 : Inv X pins σ H1 { s1 with heap := h, toks := tk } := I1.kept kept
  refine Calls.call_function_entry PyProof.Rows.kind_sorted PyProof.Rows.plain_sorted PyProof.Rows.entry_sorted (PyProof.Rows.args_sorted1 _) ?_
  unfold Builtin.«sorted»
  refine wpAny_bind (m := checkCount "sorted" 1 1 _) (wpAny_pure ?_)
  refine wpAny_bind (collect_strs (A := X.A.in1) (s := { s1 with heap := h, toks := tk }) (I1.ok.hd hc) few hold fun s' ys out k g os nd mem ar => ?_)
  have J : Inv X pins σ H1 s' := I2.call' (ch := []) os (Un.kept k) (I2.hok.kept k) (by rw [g]; exact I2.bare) (fun b z => by cases z)
  have few2 : ys.length ≤ zs.length := List.Nodup.length_le_of_subset nd (l₂ := zs) fun y hy => (mem y).mp hy
  have len : out.length = ys.length := StrsAre.len_eq ar
  have sz : out.length ≤ sizeLine := by rw [sizeLine_eq]; omega
  refine wpAny_bind (wpAny_newList ?_ sz)
  have at2 : (s'.heap.push (PyProof.Rows.seqObj "list" out.toArray 0)).get? s'.heap.objs.size = some (PyProof.Rows.seqObj "list" out.toArray 0) := Heap.get?_push_size _ rfl
  refine wpAny_bind (wpAny_holding (wpAny_call_entry PyProof.Rows.slot_list_sort ⟨_, at2, rfl⟩ PyProof.Rows.entry_list_sort
    (sort_new (s := s') J (vals_strs ar) (by show X.A.units + 1 + 1 + 62 < cLine; omega) (q1 ys nd mem) fun s2 ep' => ⟨_, rfl, wpAny_pure ⟨_, rfl, ep'⟩⟩) (PyProof.Rows.args_list_sort _)))
/-- len(set(xs)) of texts -/
def tLenSetG (K : PySem.W.Frag) (ta : TE) : TE := fun σ H Q => ta σ H fun x H1 => ∃ zs : List Str, SeqS K H1 x zs ∧ zs.length + 1 < 4096 ∧ ∀ n : Nat, (∀ ys : List Str, ys.Nodup → (∀ z, z ∈ ys ↔ z ∈ zs) → n = ys.length) → Q (.int n) H1
theorem same_len {ys zs : List Str} (a : ys.Nodup) (b : zs.Nodup) (m : ∀ z, z ∈ ys ↔ z ∈ zs) : ys.length = zs.length :=
  Nat.le_antisymm (List.Nodup.length_le_of_subset a fun z h => (m z).mp h) (List.Nodup.length_le_of_subset b fun z h => (m z).mpr h)
theorem pe_lenSetG {a : Expr} {ta : TE} {p p2 q pos : Pos} (hc : X.calm = true) (g1 : Gl X "len") (m1 : X.mg "len" = none) (g2 : Gl X "set") (m2 : X.mg "set" = none) (ha : PE X a ta)
    (na : starEach [a] X.env = (false, eval a X.env) :: starEach [] X.env := by rfl) : PE X (.Call (.Name "len" p) [.Call (.Name "set" p2) [a] [] q] [] pos) (tLenSetG X.K ta) := by
  refine ⟨fun pins s σ H Q I h => ?_⟩
  refine Call_ (ld_blt I g1 m1 boot_len (PyProof.Rows.callWith_builtin1 (PyProof.Rows.args_cons ?_ rfl) rfl rfl))
  refine Call_ (ld_blt I g2 m2 boot_set (PyProof.Rows.callWith_type1 (PyProof.Rows.args_cons ?_ na) na rfl))
  refine thn (ha.run pins s σ H _ I h) fun v s1 ⟨x, H1, I1, r1, zs, sq, few, q1⟩ => PyProof.Rows.args_nil ?_
  refine set_strs_of (I1.ok.hd hc) I1 r1 sq few fun h tk hold kept => PyProof.Rows.args_nil ?_
  have I2 : Inv X pins σ H1 { s1 with heap := h, toks := tk } := I1.kept kept
  obtain ⟨l, D, R, mem⟩ := hold
  obtain ⟨es, ep, t⟩ := D
  rw [List.take_length] at mem
  have small : l.length ≤ zs.length := List.Nodup.length_le_of_subset R.uq (l₂ := zs) fun y hy => (mem y).mp hy
  have hsz : es.size = l.length := R.ok.sz
  have sb : scanBound = 4096 := rfl
  refine call_len_set R.ob ⟨rfl, rfl, rfl⟩ rfl R.ok.fit (by show (es.size : Int) < 2 ^ 63; omega) ⟨.int l.length, H1, I2.tok _, ⟨_, by rw [← hsz]⟩, q1 _ fun ys nd m => same_len R.uq nd fun z => (mem z).trans (m z).symm⟩
end
section
variable [Cl] [Tt] {d : Option Addr} {te : TE} {me : ME}
def textsOf : T → Option (List Str)
  | .lst ts => tstrs ts
  | .tup ts => tstrs ts
  | _ => none
theorem textsOf_sq {F H : Hp} {v : V} {t : T} {zs : List Str} (w : Wd d F H) (r : RT F v t) (e : textsOf t = some zs) : SeqS Cl.K H v zs := by
  cases r with
  | lst f r => exact ⟨_, rfl, .inl (by rw [← tstrs_ok r e]; exact rd_sql w f)⟩
  | tup f r => exact ⟨_, rfl, .inr (by rw [← tstrs_ok r e]; exact rd_sqt w f)⟩
  | _ => cases e
def mLenSetG (m : ME) : ME := fun σ k => m σ fun x => match textsOf x with
  | some zs => decide (zs.length < 4000) && k (.int (onceZ zs).length)
  | none => false
theorem s_lenSetG (h : SE d te me) : SE d (tLenSetG Cl.K te) (mLenSetG me) := by
  intro F H σ σ' st k hk Q q
  refine h F H σ σ' st _ hk _ fun v x F1 H1 u1 r1 h1 => ?_
  split at h1
  · rename_i zs e
    rw [Bool.and_eq_true, decide_eq_true_eq] at h1
    refine ⟨zs, textsOf_sq u1.wd r1 e, by omega, fun n hn => ?_⟩
    rw [hn (onceZ zs) (onceZ_nodup zs) fun z => onceZ_mem]
    exact q _ _ F1 H1 u1 (.int _) h1.2
  · cases h1
/-- sorted, each once -/
def sortedZ (zs : List Str) : List Str := sortZ (onceZ zs)
def strictZ : List Str → Bool
  | x :: y :: l => ltZ x y && strictZ (y :: l)
  | _ => true
def mSortSetS (m : ME) : ME := fun σ k => m σ fun x => match textsOf x with
  | some zs => decide (zs.length < 4000) && (fun r => strictD r && k (.lst r)) (sortD ((onceZ zs).map T.str))
  | none => false
theorem alike_strs (ys : List Str) : PySem.W.AllAlike (ys.map PyData.str) := by
  intro x hx y hy
  obtain ⟨a, _, rfl⟩ := List.mem_map.mp hx
  obtain ⟨b, _, rfl⟩ := List.mem_map.mp hy
  rfl
theorem o_sortSetS (h : SE d te me) : SO d (tSortSetS Cl.K te) (mSortSetS me) := by
  intro F H σ σ' st k hk Q q
  refine h F H σ σ' st _ hk _ fun v x F1 H1 u1 r1 h1 => ?_
  split at h1
  · rename_i zs e
    rw [Bool.and_eq_true, Bool.and_eq_true, decide_eq_true_eq] at h1
    obtain ⟨h0, stri, hk2⟩ := h1
    refine ⟨zs, textsOf_sq u1.wd r1 e, by omega, fun ys nd mem => ?_⟩
    have few : ys.length ≤ zs.length := List.Nodup.length_le_of_subset nd (l₂ := zs) fun y hy => (mem y).mp hy
    have pm : (ys.map T.str).Perm ((onceZ zs).map T.str) := ((List.perm_ext_iff_of_nodup nd (onceZ_nodup zs)).mpr fun z => (mem z).trans onceZ_mem.symm).map T.str
    refine ⟨ys.map fun z => (V.str z, PyData.str z), by rw [List.map_map]; rfl, fun b hb => ?_, ?_, .inr (.inr ?_), fun b hb => ?_, by rw [List.length_map, sizeLine_eq]; omega, fun p hp => ?_⟩
    · obtain ⟨z, _, rfl⟩ := List.mem_map.mp hb
      exact .str z
    · rw [List.map_map]
      exact alike_strs ys
    · intro x hx
      rw [List.map_map] at hx
      obtain ⟨z, _, rfl⟩ := List.mem_map.mp hx
      exact ⟨(fun c => by cases c), (fun xs c => by cases c)⟩
    · obtain ⟨z, _, rfl⟩ := List.mem_map.mp hb
      exact Nat.zero_le _
    · have s1 : (((ys.map fun z => (V.str z, PyData.str z)).mergeSort (dataLe false (·.2))).map fun b => (match b.2 with | .str z => T.str z | _ => T.non)) = sortD ((onceZ zs).map T.str) := by
        rw [← sortD_same pm stri, sortD_eq]
        have := sort_maps (fun b : V × PyData => (match b.2 with | .str z => T.str z | _ => T.non)) (l := ys.map fun z => (V.str z, PyData.str z)) (r := dataLe false (·.2)) (s := leD) fun a ha b hb => by
          obtain ⟨y, _, rfl⟩ := List.mem_map.mp ha
          obtain ⟨z, _, rfl⟩ := List.mem_map.mp hb
          rfl
        rw [this, List.map_map]
        rfl
      have rr : RTs F1 (((ys.map fun z => (V.str z, PyData.str z)).mergeSort (dataLe false (·.2))).map (·.1)) (sortD ((onceZ zs).map T.str)) := by
        rw [← s1]
        have := zip_rts (F := F1) (cs := ((ys.map fun z => (V.str z, PyData.str z)).mergeSort (dataLe false (·.2))).map fun b => (b.1, (match b.2 with | .str z => T.str z | _ => T.non))) fun c hc => by
          obtain ⟨b, hb, rfl⟩ := List.mem_map.mp hc
          obtain ⟨z, _, rfl⟩ := List.mem_map.mp ((List.mergeSort_perm _ _).mem_iff.mp hb)
          exact .str z
        rwa [List.map_map, List.map_map] at this
      have u2 := up_new (o := .lst (((ys.map fun z => (V.str z, PyData.str z)).mergeSort (dataLe false (·.2))).map (·.1))) u1.wd hp
      exact q p _ F1 _ (u1.trans u2 st.wd) (none_back u1 st.wd hp) (f_none u1.wd hp) (show OwnAt F1 (upd H1 p _) p (.lst _) from ⟨_, upd_same, rr⟩) hk2
  · cases h1
end
end Tr
set_option maxRecDepth 100000
set_option maxHeartbeats 400000
/-! a, b = e1, e2 by a tuple, the second a new thing of one's own. -/
namespace Tr
open PySem PySem.Spec PyProof.Rows L2
variable [Cl] [Tt]
variable {d : Option Addr} {pz : Bool} {ta tb : TE} {ma mb : ME}
theorem z_asgVO {i j : Nat} (ha : SE d ta ma) (hb : SO d tb mb) (hz : pz = false ∨ (i ≠ 0 ∧ j ≠ 0)) (hij : i ≠ j) : SSt d pz (tAsg (tTupB (tCons ta (tCons tb tNil))) (gTup Cl.K 2 (gCons (gName i) (gCons (gName j) gNil)))) (mParVO i j ma mb) := by
  intro pn hp B Z bo F H σ σ' s _ k hk D e
  refine ha F H σ σ' s.st _ hk _ fun w x F1 H1 u1 r1 h1 => ?_
  have s1 := s.up bo u1
  refine hb F1 H1 σ σ' s1.st _ h1 _ fun p y F2 H2 u2 m1 m2 o2 h2 => ?_
  have s2 := s1.up bo u2
  refine ⟨by show 2 ≤ sizeLine; rw [sizeLine_eq]; omega, fun t ob ht hob => ?_⟩
  have u3 := up_new (o := .frz ob (.tup [w, .ref p])) s2.st.wd ht
  have s3 := s2.up bo u3
  have c2 := tape_nn s1.st.wd m1
  obtain ⟨oo, hp2⟩ := o2.some
  have o3 : OwnAt F2 (upd H2 t (.frz ob (.tup [w, .ref p]))) p y := o2.mono u3.f (by rw [hp2, u3.keep p oo c2 (o2.nt hp2) hp2])
  have no2 := noOwn_new s1.st m1
  have st3 := s3.st.setVal i (r1.mono u2.f)
  have st4 := sts_own (i := j) st3 o3 m2 c2 fun l t q nl a b => by
    obtain ⟨a1, b1⟩ := ownLe_set (s := .val x) (fun _ z => nomatch z) l t q a b
    exact no2 l t q a1 b1
  refine ⟨t, _, rfl, .inl (.inr ⟨ob, upd_same⟩), rfl, w, [.ref p], rfl, .ref p, [], rfl, rfl, ?_⟩
  refine e.nx F2 _ _ _ ⟨s3.b, st4, oz_own (fun l t q a b => ?_) (bo.new F1 H1 p s1.b s1.st.wd m1), fun a ha => ?_⟩ h2
  · obtain ⟨a1, b1⟩ := ownLe_set (s := .val x) (fun _ z => nomatch z) l t q a b
    exact s3.oz l t q a1 b1
  · rcases hz with z | ⟨z1, z2⟩
    · rw [hp z] at ha
      cases ha
    · rw [List.getElem?_set_ne z2, List.getElem?_set_ne z1]
      exact s3.pin a ha
end Tr
set_option maxRecDepth 100000
set_option maxHeartbeats 400000
/-! list(range(..)) as a value. Not yet used by gen2 (pe_listRg with prg_1, prg_2). -/
namespace Tr
open PySem PySem.Spec PyProof.Rows L2
variable [Cl] [Tt]
variable {d : Option Addr} {ta tb : TE} {ma mb : ME}
theorem rg_rt {F : Hp} (a b : Int) : RTs F (rgV a b) (rngT a (b - a).toNat) := by
  unfold rgV
  generalize (b - a).toNat = n
  have key : ∀ (n : Nat) (lo : Int), RTs F ((List.range n).map fun i => V.int (lo + (i : Nat))) (rngT lo n) := by
    intro n
    induction n with
    | zero => exact fun _ => .nil
    | succ n ih =>
      intro lo
      rw [List.range_succ_eq_map, List.map_cons, List.map_map]
      have e : (List.range n).map ((fun i : Nat => V.int (lo + (i : Nat))) ∘ Nat.succ) = (List.range n).map fun i => V.int (lo + 1 + (i : Nat)) := by
        refine List.map_congr_left fun i _ => ?_
        show V.int (lo + ((i + 1 : Nat) : Int)) = _
        congr 1
        omega
      rw [e]
      exact .cons (by rw [show (lo + ((0 : Nat) : Int)) = lo by omega]; exact .int lo) (ih (lo + 1))
  exact key n a
def mListRg (a b : Int) (k : T → Bool) : Bool := decide (0 ≤ a) && (decide (a ≤ 16777216) && (decide (0 ≤ b) && (decide (b ≤ 16777216) && k (.lst (rngT a (b - a).toNat)))))
def mLRg1 (ma : ME) : ME := fun σ k => ma σ fun x => match x with
  | .int n => mListRg 0 n k
  | _ => false
def mLRg2 (ma mb : ME) : ME := fun σ k => ma σ fun x => mb σ fun y => match x, y with
  | .int i, .int j => mListRg i j k
  | _, _ => false
theorem o_lrg1 (h : SE d ta ma) : SO d (tLstRg (tRg1 ta)) (mLRg1 ma) := by
  intro F H σ σ' st k hk Q q
  refine h F H σ σ' st _ hk _ fun v x F1 H1 u1 r1 h1 => ?_
  split at h1
  · rename_i n
    unfold mListRg at h1
    simp only [Bool.and_eq_true, decide_eq_true_eq] at h1
    obtain ⟨g1, g2, g3, g4, h1⟩ := h1
    cases r1
    refine ⟨n, rfl, RgOk.of_le g1 g4 g2 g3, fun p hp => ?_⟩
    exact q p _ F1 _ (u1.trans (up_new u1.wd hp) st.wd) (none_back u1 st.wd hp) (f_none u1.wd hp) (show OwnAt F1 (upd H1 p (.lst (rgV 0 n))) p (.lst (rngT 0 (n - 0).toNat)) from ⟨_, upd_same, rg_rt 0 n⟩) h1
  · cases h1
theorem o_lrg2 (h : SE d ta ma) (g : SE d tb mb) : SO d (tLstRg (tRg2 ta tb)) (mLRg2 ma mb) := by
  intro F H σ σ' st k hk Q q
  refine h F H σ σ' st _ hk _ fun v x F1 H1 u1 r1 h1 => ?_
  refine g F1 H1 σ σ' (st.up u1) _ h1 _ fun w y F2 H2 u2 r2 h2 => ?_
  have u12 := u1.trans u2 st.wd
  split at h2
  · rename_i i j
    unfold mListRg at h2
    simp only [Bool.and_eq_true, decide_eq_true_eq] at h2
    obtain ⟨g1, g2, g3, g4, h2⟩ := h2
    cases r1
    cases r2
    refine ⟨i, j, rfl, rfl, RgOk.of_le g1 g4 g2 g3, fun p hp => ?_⟩
    exact q p _ F2 _ (u12.trans (up_new u2.wd hp) st.wd) (none_back u12 st.wd hp) (f_none u2.wd hp) (show OwnAt F2 (upd H2 p (.lst (rgV i j))) p (.lst (rngT i (j - i).toNat)) from ⟨_, upd_same, rg_rt i j⟩) h2
  · cases h2
end Tr
set_option maxRecDepth 100000
set_option maxHeartbeats 400000
/-! a[i], b[j] = x, y with numbers. Not yet used by gen2. -/
namespace Tr
open PySem PySem.Spec PyProof.Rows L2
variable [Cl] [Tt]
variable {d : Option Addr} {pz : Bool} {ta tb tx ty : TE} {ma mb mx my : ME}
def mSwapI (i j : Nat) (ma mb mx my : ME) : MS := fun σ k => ma σ fun x => mb σ fun y => match x, y with
  | .int a, .int b => mSeq (mSetL i (mC (.int a)) mx) (mSetL j (mC (.int b)) my) σ k
  | _, _ => false
theorem z_swapI {i j : Nat} (ha : SE d ta ma) (hb : SE d tb mb) (hx : SE d tx mx) (hy : SE d ty my) :
    SSt d pz (tAsg (tTupB (tCons ta (tCons tb tNil))) (gTup Cl.K 2 (gCons (gSub (tVar i) tx rSetL) (gCons (gSub (tVar j) ty rSetL) gNil)))) (mSwapI i j ma mb mx my) := by
  intro pn hp B Z bo F H σ σ' s _ k hk D e
  refine ha F H σ σ' s.st _ hk _ fun v x F1 H1 u1 r1 h1 => ?_
  have s1 := s.up bo u1
  refine hb F1 H1 σ σ' s1.st _ h1 _ fun w y F2 H2 u2 r2 h2 => ?_
  have s2 := s1.up bo u2
  split at h2
  · rename_i a b
    cases r1
    cases r2
    refine ⟨by show 2 ≤ sizeLine; rw [sizeLine_eq]; omega, fun t ob ht hob => ?_⟩
    have s3 := s2.up bo (up_new (o := .frz ob (.tup [.int a, .int b])) s2.st.wd ht)
    refine ⟨t, _, rfl, .inl (.inr ⟨ob, upd_same⟩), rfl, .int a, [.int b], rfl, ?_⟩
    have z1 := z_setL (d := d) (pz := pz) (i := i) (tv := tC (.int a)) (s_C fun _ => .int a) hx pn hp B Z bo F2 _ σ σ' s3 noLk _ h2
      { D with nx := fun σ' H' => gCons (gSub (tVar j) ty rSetL) gNil [.int b] σ' H' D.nx }
      ⟨fun F3 H3 τ τ' s4 h4 => ⟨.int b, [], rfl, z_setL (d := d) (pz := pz) (i := j) (tv := tC (.int b)) (s_C fun _ => .int b) hy pn hp B Z bo F3 H3 τ τ' s4 noLk k h4
          { D with nx := fun σ' H' => gNil [] σ' H' D.nx } ⟨fun F5 H5 π π' s5 h5 => ⟨rfl, e.nx F5 H5 π π' s5 h5⟩, fun F1 H1 v t b w r h1 => e.rt F1 H1 v t b w r h1, fun F1 H1 τ τ' s1 h1 => e.bk F1 H1 τ τ' s1 h1, fun F1 H1 τ τ' s1 h1 => e.ct F1 H1 τ τ' s1 h1, e.ro⟩⟩,
        fun F1 H1 v t b w r h1 => e.rt F1 H1 v t b w r h1, fun F1 H1 τ τ' s1 h1 => e.bk F1 H1 τ τ' s1 h1, fun F1 H1 τ τ' s1 h1 => e.ct F1 H1 τ τ' s1 h1, e.ro⟩
    exact z1
  · cases h2
end Tr
set_option maxRecDepth 100000
set_option maxHeartbeats 1000000
/-! zip of any number of lists, the tuples kept by whoever gets them. -/
namespace ZN
open PySem
open PySem.Sem (wp)
abbrev IsZipN (h : Heap) (z TI TO : Addr) (f0 f1 : Value) : Prop := h.get? z = some { cls := .type "zip", dict := none, data := .fields #[f0, f1, .bool false, .ref TI, .ref TO], slots := #[] }
abbrev IsTup (h : Heap) (T : Addr) (vs : List Value) : Prop := h.get? T = some { cls := .type "tuple", data := .seq vs.toArray }
structure Apart (z TI TO : Addr) (is : List Addr) (ls : List (Bool × Addr)) : Prop where
  TIz : TI ≠ z
  TOz : TO ≠ z
  TITO : TI ≠ TO
  zi : z ∉ is
  TIi : TI ∉ is
  TOi : TO ∉ is
  nd : is.Nodup
  lz : ∀ l ∈ ls, l.2 ≠ z ∧ l.2 ≠ TO ∧ l.2 ∉ is
/-- an iterator of a list, or of a tuple -/
def IterB (h : Heap) : Bool → Addr → Addr → Nat → Prop
  | true, i, l, n => h.IsListIter i l n
  | false, i, l, n => h.IsTupleIter i l n
def SeqB (h : Heap) : Bool → Addr → Array Value → Prop
  | true, l, xs => h.IsList l xs
  | false, l, xs => h.IsTuple l xs
theorem IterB.at {h h' : Heap} {b : Bool} {i l : Addr} {n : Nat} (x : IterB h b i l n) (k : ∀ o, h.get? i = some o → h'.get? i = some o) : IterB h' b i l n := by
  cases b with
  | true => exact Heap.IsListIter.at x k
  | false => exact Heap.IsTupleIter.at x k
theorem SeqB.at {h h' : Heap} {b : Bool} {l : Addr} {xs : Array Value} (x : SeqB h b l xs) (k : ∀ o, h.get? l = some o → h'.get? l = some o) : SeqB h' b l xs := by
  cases b with
  | true => exact Heap.IsList.at x k
  | false =>
    obtain ⟨o, e, r⟩ := (show h.IsTuple l xs from x)
    exact ⟨o, k o e, r⟩
theorem IterB.there {h : Heap} {b : Bool} {i l : Addr} {n : Nat} (x : IterB h b i l n) : ∃ o, h.get? i = some o ∧ ∀ v, o.data ≠ .cell v := by
  cases b with
  | true =>
    obtain ⟨o, e, _, d⟩ := (show h.IsListIter i l n from x)
    exact ⟨o, e, fun v q => by rw [d] at q; cases q⟩
  | false =>
    obtain ⟨o, e, _, d⟩ := (show h.IsTupleIter i l n from x)
    exact ⟨o, e, fun v q => by rw [d] at q; cases q⟩
theorem SeqB.there {h : Heap} {b : Bool} {l : Addr} {xs : Array Value} (x : SeqB h b l xs) : ∃ o, h.get? l = some o := by
  cases b with
  | true =>
    obtain ⟨o, e, _⟩ := (show h.IsList l xs from x)
    exact ⟨o, e⟩
  | false =>
    obtain ⟨o, e, _⟩ := (show h.IsTuple l xs from x)
    exact ⟨o, e⟩
/-- the iterators stand at j's turn: those ahead of j one further -/
def Its (h : Heap) (is : List Addr) (ls : List (Bool × Addr)) (k j : Nat) : Prop := ∀ (m : Nat) (i : Addr) (l : Bool × Addr), is[m]? = some i → ls[m]? = some l → IterB h l.1 i l.2 (if m < j then k + 1 else k)
/-- the k-th things of the lists -/
def Row (h : Heap) (ls : List (Bool × Addr)) (k : Nat) (us : List Value) : Prop := ∀ (m : Nat) (l : Bool × Addr), ls[m]? = some l → ∃ (xs : Array Value) (u : Value), SeqB h l.1 l.2 xs ∧ us[m]? = some u ∧ xs[k]? = some u
section
variable {prog : Program} {w : World} {A : Around} {E : Value → Shared → Prop} {s : Shared}
theorem forIn_all {α β : Type} {M : Model} {body : α → β → Sem (ForInStep β)} : ∀ (xs : List α) (st : Nat → β) (P : Nat → Shared → Prop) (s : Shared) (E : Value → Shared → Prop),
    (∀ j x s, xs[j]? = some x → P j s → wpAny M A (body x (st j)) (fun r s' => r = .yield (st (j + 1)) ∧ P (j + 1) s') E s) → P 0 s →
    wpAny M A (forIn xs (st 0) body) (fun r s' => r = st xs.length ∧ P xs.length s') E s
  | [], st, P, s, E, _, h0 => by
    simp only [List.forIn_nil]
    exact wpAny_pure ⟨rfl, h0⟩
  | x :: xs, st, P, s, E, h, h0 => by
    simp only [List.forIn_cons]
    refine wpAny_bind (wpAny_mono (h 0 x s rfl h0) (fun r s' q => ?_) fun _ _ q => q)
    obtain ⟨rfl, q⟩ := q
    exact forIn_all xs (fun j => st (j + 1)) (fun j => P (j + 1)) s' E (fun j y s2 e q2 => h (j + 1) y s2 (by simpa using e) q2) q
theorem zipIdx_at {α : Type} {xs : List α} {k j : Nat} {p : α × Nat} (e : (xs.zipIdx k)[j]? = some p) : xs[j]? = some p.1 ∧ p.2 = k + j := by
  rw [List.getElem?_zipIdx] at e
  cases q : xs[j]? with
  | none => rw [q] at e; cases e
  | some x =>
    rw [q] at e
    cases e
    exact ⟨rfl, rfl⟩
theorem nextB_item {b : Bool} {i l : Addr} {k : Nat} {xs : Array Value} {u : Value} {Q : Value → Shared → Prop} (h1 : IterB s.heap b i l k) (hl : SeqB s.heap b l xs) (hx : xs[k]? = some u)
    (hQ : ∀ h', IterB h' b i l (k + 1) → Heap.SameBut i s.heap h' → Q u { s with heap := h' }) : wpAny (model prog w) A (Builtin.SmallTypes.nextOf (.ref i)) Q E s := by
  cases b with
  | true => exact wpAny_nextOf_list_item h1 hl hx hQ
  | false => exact RZ.nextOf_tuple_item h1 hl hx hQ
theorem nextB_end {b : Bool} {i l : Addr} {k : Nat} {xs : Array Value} {Q : Value → Shared → Prop} (hh : A.handled = none) (h1 : IterB s.heap b i l k) (hl : SeqB s.heap b l xs) (hx : xs[k]? = none)
    (hE : ∀ h' e, Heap.ExtBut i s.heap h' → (∃ o, h'.get? e = some o ∧ o.cls = .type "StopIteration") → E (.ref e) { s with heap := h' }) : wpAny (model prog w) A (Builtin.SmallTypes.nextOf (.ref i)) Q E s := by
  cases b with
  | true => exact wpAny_nextOf_list_end hh h1 hl hx hE
  | false => exact RZ.nextOf_tuple_end hh h1 hl hx hE
/-- what one turn of the drawing does -/
theorem draw {is : List Addr} {ls : List (Bool × Addr)} {z TI TO : Addr} (D : Apart z TI TO is ls) {k j : Nat} {i : Addr} {l : Bool × Addr} {u : Value} {xs : Array Value} {Q : Value → Shared → Prop} (ei : is[j]? = some i) (el : ls[j]? = some l) (hI : Its s.heap is ls k j) (hl : SeqB s.heap l.1 l.2 xs) (hx : xs[k]? = some u)
    (hQ : ∀ h', Its h' is ls k (j + 1) → Heap.SameBut i s.heap h' → Q u { s with heap := h' }) : wpAny (model prog w) A (Builtin.SmallTypes.nextOf (.ref i)) Q E s := by
  have h1 := hI j i l ei el
  rw [if_neg (Nat.lt_irrefl j)] at h1
  refine nextB_item h1 hl hx fun h' h2 hs => hQ h' (fun m i' l' a b => ?_) hs
  by_cases c : m = j
  · subst c
    rw [ei] at a
    rw [el] at b
    cases a
    cases b
    rw [if_pos (Nat.lt_succ_self m)]
    exact h2
  · have ne : i' ≠ i := fun q => by
      rw [q] at a
      have hm := (List.getElem?_eq_some_iff.mp a)
      have hj := (List.getElem?_eq_some_iff.mp ei)
      exact c ((List.getElem_inj D.nd).mp (hm.2.trans hj.2.symm))
    have := hI m i' l' a b
    have e : (if m < j + 1 then k + 1 else k) = if m < j then k + 1 else k := by
      by_cases q : m < j
      · rw [if_pos q, if_pos (by omega)]
      · rw [if_neg q, if_neg (by omega)]
    rw [e]
    exact this.at fun o q => hs.extBut _ _ ne q
/-- the heap of a turn's end -/
structure Kept (h h' : Heap) (z TO : Addr) (is : List Addr) : Prop where
  size : h'.objs.size = h.objs.size + 1
  keep : ∀ c o, c ≠ z → c ≠ TO → c ∉ is → h.get? c = some o → h'.get? c = some o
end
end ZN
set_option maxRecDepth 100000
set_option maxHeartbeats 1000000
namespace ZN
open PySem
open PySem.Sem (wp)
section
variable {prog : Program} {w : World} {A : Around} {E : Value → Shared → Prop} {s : Shared}
def F0 (f0 : Value) : Prop := f0 = .none ∨ ∃ T : Nat, f0 = rawInt T
/-- whether the tuple is free: either way -/
theorem isFree {z TI TO : Addr} {f0 f1 : Value} {Q : Bool → Shared → Prop} (hz : IsZipN s.heap z TI TO f0 f1) (hf : F0 f0)
    (h : ∀ h' b f1', IsZipN h' z TI TO f0 f1' → Heap.SameBut z s.heap h' → Q b { s with heap := h' }) : wpAny (model prog w) A (Builtin.SmallTypes.ownedTupleIsFree (.ref z)) Q E s := by
  unfold Builtin.SmallTypes.ownedTupleIsFree
  rcases hf with rfl | ⟨T, rfl⟩
  · exact wpAny_bind (wpAny_field hz rfl (x := .none) rfl (wpAny_pure (h s.heap true f1 hz (Heap.SameBut.refl _ _))))
  · refine wpAny_bind (wpAny_field hz rfl (x := rawInt T) rfl ?_)
    show wpAny _ _ (loadIfAlive ((T : Int).toNat) >>= _) _ _ _
    rw [Int.toNat_natCast]
    refine wpAny_bind (show wpAny (model prog w) A (loadIfAlive T) _ E s from fun _ _ _ => (?_ : _))
    show wpAny _ _ _ _ _ _
    cases hT : s.heap.get? T with
    | none =>
      simp only [Option.isNone_none, if_true]
      exact wpAny_pure (h s.heap true f1 hz (Heap.SameBut.refl _ _))
    | some oT =>
      simp only [Option.isNone_some, Bool.false_eq_true, if_false]
      refine wpAny_bind (wpAny_field hz rfl (x := f1) rfl ?_)
      by_cases c : (f1 != Value.bool true) = true
      · rw [if_pos c]
        exact wpAny_bind (wpAny_setField_rec hz (by simp) fun h₁ hz₁ hs₁ => wpAny_pure (h h₁ false _ hz₁ hs₁))
      · rw [if_neg c]
        exact wpAny_pure (h s.heap false f1 hz (Heap.SameBut.refl _ _))
end
end ZN
set_option maxRecDepth 100000
set_option maxHeartbeats 1000000
namespace ZN
open PySem
open PySem.Sem (wp)
section
variable {prog : Program} {w : World} {A : Around} {E : Value → Shared → Prop} {s : Shared}
theorem refs_at {is : List Addr} {j : Nat} {x : Value} (e : (is.map Value.ref)[j]? = some x) : ∃ i, is[j]? = some i ∧ x = .ref i := by
  rw [List.getElem?_map] at e
  cases q : is[j]? with
  | none => rw [q] at e; cases e
  | some i =>
    rw [q] at e
    cases e
    exact ⟨i, rfl, rfl⟩
theorem its_next {h : Heap} {is : List Addr} {ls : List (Bool × Addr)} {k : Nat} (I : Its h is ls k is.length) : Its h is ls (k + 1) 0 := fun m i l a b => by
  have := I m i l a b
  rw [if_pos (List.getElem?_eq_some_iff.mp a).1] at this
  rw [if_neg (Nat.not_lt_zero m)]
  exact this
theorem its_same {h h' : Heap} {is : List Addr} {ls : List (Bool × Addr)} {k j : Nat} (I : Its h is ls k j) (e : ∀ i ∈ is, ∀ o, h.get? i = some o → h'.get? i = some o) : Its h' is ls k j := fun m i l a b => (I m i l a b).at fun o q => e i (List.mem_of_getElem? a) o q
/-- while the kept tuple is filled -/
structure Fill (h0 h : Heap) (z TI TO : Addr) (is : List Addr) (ls : List (Bool × Addr)) (us : List Value) (k j : Nat) (f1 : Value) : Prop where
  zp : IsZipN h z TI TO .ellipsis f1
  to : ∃ ws, IsTup h TO ws ∧ ws.length = us.length ∧ ∀ m, m < j → ws[m]? = us[m]?
  its : Its h is ls k j
  size : h.objs.size = h0.objs.size
  keep : ∀ c o, c ≠ z → c ≠ TO → c ∉ is → h0.get? c = some o → h.get? c = some o
theorem next_free {is : List Addr} {ls : List (Bool × Addr)} {us ws : List Value} {z TI TO : Addr} {f0 f1 : Value} {k : Nat} {Q : Value → Shared → Prop} (D : Apart z TI TO is ls) (hz : IsZipN s.heap z TI TO f0 f1) (hTI : IsTup s.heap TI (is.map .ref)) (hTO : IsTup s.heap TO ws) (lw : ws.length = us.length) (lu : us.length = is.length) (ll : ls.length = is.length)
    (hI : Its s.heap is ls k 0) (hR : Row s.heap ls k us) (hn : is ≠ []) (big : us.length ≤ sizeLine)
    (hQ : ∀ h' f0' f1', IsZipN h' z TI TO f0' f1' → F0 f0' → (∃ ws', IsTup h' TO ws' ∧ ws'.length = us.length) → Its h' is ls (k + 1) 0 → IsTup h' s.heap.objs.size us → Kept s.heap h' z TO is → Q (.ref s.heap.objs.size) { s with heap := h' })
    (hfree : ∀ (Q : Bool → Shared → Prop), (∀ h' f1', IsZipN h' z TI TO f0 f1' → Heap.SameBut z s.heap h' → Q true { s with heap := h' }) → wpAny (model prog w) A (Builtin.SmallTypes.ownedTupleIsFree (.ref z)) Q E s) :
    wpAny (model prog w) A (Builtin.«zip.__next__» ⟨[.ref z], []⟩) (fun fin s' => ∃ v, fin = .done (.ret v) ∧ Q v s') E s := by
  show wpAny _ _ (field (.ref z) 2 >>= _) _ _ _
  refine wpAny_bind (wpAny_field hz rfl (x := .bool false) rfl ?_)
  show wpAny _ _ (field (.ref z) 3 >>= _) _ _ _
  refine wpAny_bind (wpAny_field hz rfl (x := .ref TI) rfl ?_)
  refine wpAny_bind (wpAny_seqItems hTI rfl ?_)
  have ne : ((is.map Value.ref).toArray).isEmpty = false := by
    cases is with
    | nil => exact absurd rfl hn
    | cons a b => rfl
  simp only [ne, Bool.false_eq_true, if_false]
  refine wpAny_bind (hfree _ fun h₁ f1' hz₁ hs₁ => ?_)
  simp only [if_true]
  refine wpAny_bind (wpAny_rule ?_)
  refine wpAny_bind (wpAny_field hz₁ rfl (x := .ref TO) rfl ?_)
  refine wpAny_bind (wpAny_setField_rec hz₁ (by simp) fun h₂ hz₂ hs₂ => ?_)
  replace hz₂ : IsZipN h₂ z TI TO .ellipsis f1' := hz₂
  have k2 : ∀ c o, c ≠ z → s.heap.get? c = some o → h₂.get? c = some o := fun c o a b => hs₂.extBut _ _ a (hs₁.extBut _ _ a b)
  have fill0 : Fill s.heap h₂ z TI TO is ls us k 0 f1' := ⟨hz₂, ⟨ws, k2 _ _ D.TOz hTO, lw, fun m q => absurd q (Nat.not_lt_zero m)⟩, its_same hI fun i hi o e => k2 i o (fun q => D.zi (by rw [← q]; exact hi)) e, hs₂.1.trans hs₁.1, fun c o c1 _ _ e => k2 c o c1 e⟩
  refine wpAny_bind (wpAny_mono (forIn_all (M := model prog w) (A := A) _ (fun _ => (none, ())) (fun j s' => ∃ h, s' = { s with heap := h } ∧ Fill s.heap h z TI TO is ls us k j f1') _ E ?_ ⟨h₂, rfl, fill0⟩) (fun r s' q => ?_) fun _ _ q => q)
  · rintro j ⟨x, jj⟩ s' ej ⟨h, rfl, fl⟩
    obtain ⟨e1, e2⟩ := zipIdx_at ej
    have e2 : jj = j := by simpa using e2
    subst e2
    obtain ⟨i, ei, rfl⟩ := refs_at (show (is.map Value.ref)[jj]? = some x by simpa using e1)
    have lj : jj < is.length := (List.getElem?_eq_some_iff.mp ei).1
    have el : ls[jj]? = some (ls[jj]'(by omega)) := List.getElem?_eq_getElem (by omega)
    generalize ls[jj]'(by omega) = l at el
    obtain ⟨xs, u, hl, hu, hx⟩ := hR jj l el
    obtain ⟨lz, lTO, li⟩ := D.lz l (List.mem_of_getElem? el)
    refine wpAny_bind (wpAny_onRaise ?_)
    show wpAny _ _ (Builtin.SmallTypes.nextOf (.ref i) >>= _) _ _ _
    refine wpAny_bind (draw (s := { s with heap := h }) D ei el fl.its (hl.at fun o e => fl.keep l.2 o lz lTO li e) hx fun h₃ I3 hs₃ => wpAny_pure ?_)
    have ii : i ∈ is := List.mem_of_getElem? ei
    obtain ⟨vs, hv, lv, fv⟩ := fl.to
    have TOi : TO ≠ i := fun q => D.TOi (by rw [q]; exact ii)
    have hv₃ : IsTup h₃ TO vs := hs₃.extBut _ _ TOi hv
    dsimp only
    refine wpAny_bind (wpAny_seqItems hv₃ rfl ?_)
    dsimp only
    refine wpAny_bind (wpAny_updateSeq hv₃ rfl ?_ (by rw [List.size_toArray]; omega) (by rw [Array.size_setIfInBounds, List.size_toArray]; omega))
    refine wpAny_bind (wpAny_letGo (wpAny_pure ⟨rfl, _, rfl, ?_⟩))
    have hs₄ : Heap.SameBut TO h₃ (h₃.update TO (Obj.mapSeq fun x => x.setIfInBounds jj u)) := Heap.SameBut.update ..
    have iTO : ∀ i' ∈ is, i' ≠ TO := fun i' h' q => D.TOi (by rw [← q]; exact h')
    refine ⟨hs₄.extBut _ _ D.TOz.symm (hs₃.extBut _ _ (fun q => D.zi (by rw [q]; exact ii)) fl.zp), ⟨vs.set jj u, ?_, by rw [List.length_set]; exact lv, fun m q => ?_⟩, its_same I3 fun i' h' o e => hs₄.extBut _ _ (iTO i' h') e, hs₄.1.trans (hs₃.1.trans fl.size), fun c o c1 c2 c3 e => hs₄.extBut _ _ c2 (hs₃.extBut _ _ (fun q => c3 (by rw [q]; exact ii)) (fl.keep c o c1 c2 c3 e))⟩
    · show (h₃.update TO _).get? TO = _
      rw [Heap.get?_update_self _ hv₃ rfl]
      simp [Obj.mapSeq]
    · by_cases c : m = jj
      · subst c
        rw [List.getElem?_set_self (by omega), hu]
      · rw [List.getElem?_set_ne (Ne.symm c)]
        exact fv m (by omega)
  · obtain ⟨rfl, h, rfl, fl⟩ := q
    have len : ((is.map Value.ref).toArray.toList.zipIdx).length = is.length := by simp
    rw [len] at fl
    obtain ⟨vs, hv, lv, fv⟩ := fl.to
    have ev : vs = us := List.ext_getElem? fun m => by
      by_cases c : m < is.length
      · exact fv m c
      · rw [List.getElem?_eq_none (by omega), List.getElem?_eq_none (by omega)]
    subst ev
    dsimp only
    refine wpAny_bind (wpAny_seqItems hv rfl ?_)
    dsimp only
    refine wpAny_bind (wpAny_newTuple ?_ (by simpa using big))
    show wpAny _ _ (Builtin.SmallTypes.ownedTupleHandOut (.ref z) (.ref h.objs.size) >>= _) _ _ _
    refine wpAny_bind ?_
    unfold Builtin.SmallTypes.ownedTupleHandOut
    have hzlt : z < h.objs.size := Heap.lt_size fl.zp
    have hz₆ : IsZipN (h.push { cls := .type "tuple", data := .seq vs.toArray.toList.toArray }) z TI TO .ellipsis f1' := Heap.get?_push_of_some _ fl.zp
    refine wpAny_bind (wpAny_setField_rec hz₆ (by simp) fun h₇ hz₇ hs₇ => ?_)
    replace hz₇ : IsZipN h₇ z TI TO (rawInt h.objs.size) f1' := hz₇
    refine wpAny_setField_rec hz₇ (by simp) fun h₈ hz₈ hs₈ => ?_
    replace hz₈ : IsZipN h₈ z TI TO (rawInt h.objs.size) (.bool false) := hz₈
    have up : ∀ c o, c ≠ z → h.get? c = some o → h₈.get? c = some o := fun c o c1 e => hs₈.extBut _ _ c1 (hs₇.extBut _ _ c1 (Heap.get?_push_of_some _ e))
    have hT₈ : h₈.get? h.objs.size = some { cls := .type "tuple", data := .seq vs.toArray } := hs₈.extBut _ _ (Nat.ne_of_gt hzlt) (hs₇.extBut _ _ (Nat.ne_of_gt hzlt) (Heap.get?_push_size _ rfl))
    have hz8 : h₈.objs.size = h.objs.size + 1 := by rw [hs₈.1, hs₇.1, Heap.size_push]
    rw [fl.size] at hz8 hT₈
    refine wpAny_pure ⟨_, rfl, ?_⟩
    show Q (.ref h.objs.size) _
    rw [fl.size]
    refine hQ h₈ _ _ hz₈ (.inr ⟨_, rfl⟩) ⟨vs, up _ _ D.TOz hv, rfl⟩ (its_next (its_same fl.its fun i hi o e => up i o (fun q => D.zi (by rw [← q]; exact hi)) e)) hT₈ ⟨hz8, fun c o c1 c2 c3 e => up c o c1 (fl.keep c o c1 c2 c3 e)⟩
end
end ZN
set_option maxRecDepth 100000
set_option maxHeartbeats 1000000
namespace ZN
open PySem
open PySem.Sem (wp)
section
variable {prog : Program} {w : World} {A : Around} {E : Value → Shared → Prop} {s : Shared}
structure Fill2 (h0 h : Heap) (z TI TO : Addr) (is : List Addr) (ls : List (Bool × Addr)) (k j : Nat) (f0 f1 : Value) : Prop where
  zp : IsZipN h z TI TO f0 f1
  its : Its h is ls k j
  size : h.objs.size = h0.objs.size
  keep : ∀ c o, c ≠ z → c ∉ is → h0.get? c = some o → h.get? c = some o
theorem next_held {is : List Addr} {ls : List (Bool × Addr)} {us : List Value} {z TI TO : Addr} {f0 f1 : Value} {k : Nat} {Q : Value → Shared → Prop} (D : Apart z TI TO is ls) (hz : IsZipN s.heap z TI TO f0 f1) (hf : F0 f0) (hTI : IsTup s.heap TI (is.map .ref)) (lu : us.length = is.length) (ll : ls.length = is.length)
    (hI : Its s.heap is ls k 0) (hR : Row s.heap ls k us) (hn : is ≠ []) (big : us.length ≤ sizeLine)
    (hQ : ∀ h' f1', IsZipN h' z TI TO f0 f1' → Its h' is ls (k + 1) 0 → IsTup h' s.heap.objs.size us → h'.objs.size = s.heap.objs.size + 1 → (∀ c o, c ≠ z → c ∉ is → s.heap.get? c = some o → h'.get? c = some o) → Q (.ref s.heap.objs.size) { s with heap := h' })
    (hfree : ∀ (Q : Bool → Shared → Prop), (∀ h' f1', IsZipN h' z TI TO f0 f1' → Heap.SameBut z s.heap h' → Q false { s with heap := h' }) → wpAny (model prog w) A (Builtin.SmallTypes.ownedTupleIsFree (.ref z)) Q E s) :
    wpAny (model prog w) A (Builtin.«zip.__next__» ⟨[.ref z], []⟩) (fun fin s' => ∃ v, fin = .done (.ret v) ∧ Q v s') E s := by
  show wpAny _ _ (field (.ref z) 2 >>= _) _ _ _
  refine wpAny_bind (wpAny_field hz rfl (x := .bool false) rfl ?_)
  show wpAny _ _ (field (.ref z) 3 >>= _) _ _ _
  refine wpAny_bind (wpAny_field hz rfl (x := .ref TI) rfl ?_)
  refine wpAny_bind (wpAny_seqItems hTI rfl ?_)
  have ne : ((is.map Value.ref).toArray).isEmpty = false := by
    cases is with
    | nil => exact absurd rfl hn
    | cons a b => rfl
  simp only [ne, Bool.false_eq_true, if_false]
  refine wpAny_bind (hfree _ fun h₁ f1' hz₁ hs₁ => ?_)
  simp only [Bool.false_eq_true, if_false]
  have fill0 : Fill2 s.heap h₁ z TI TO is ls k 0 f0 f1' := ⟨hz₁, its_same hI fun i hi o e => hs₁.extBut _ _ (fun q => D.zi (by rw [← q]; exact hi)) e, hs₁.1, fun c o c1 _ e => hs₁.extBut _ _ c1 e⟩
  rw [← Array.forIn_toList]
  refine wpAny_bind (wpAny_mono (forIn_all (M := model prog w) (A := A) _ (fun j => (none, (us.take j).toArray)) (fun j s' => ∃ h, s' = { s with heap := h } ∧ Fill2 s.heap h z TI TO is ls k j f0 f1') _ E ?_ ⟨h₁, rfl, fill0⟩) (fun r s' q => ?_) fun _ _ q => q)
  · rintro j x s' ej ⟨h, rfl, fl⟩
    obtain ⟨i, ei, rfl⟩ := refs_at (show (is.map Value.ref)[j]? = some x by simpa using ej)
    have lj : j < is.length := (List.getElem?_eq_some_iff.mp ei).1
    have el : ls[j]? = some (ls[j]'(by omega)) := List.getElem?_eq_getElem (by omega)
    generalize ls[j]'(by omega) = l at el
    obtain ⟨xs, u, hl, hu, hx⟩ := hR j l el
    obtain ⟨lz, lTO, li⟩ := D.lz l (List.mem_of_getElem? el)
    dsimp only
    refine wpAny_bind (wpAny_holding ?_)
    show wpAny _ _ (Builtin.SmallTypes.nextOf (.ref i) >>= _) _ _ _
    refine wpAny_bind (draw (s := { s with heap := h }) D ei el fl.its (hl.at fun o e => fl.keep l.2 o lz li e) hx fun h₃ I3 hs₃ => wpAny_pure ?_)
    have ii : i ∈ is := List.mem_of_getElem? ei
    dsimp only
    refine wpAny_pure ⟨?_, _, rfl, hs₃.extBut _ _ (fun q => D.zi (by rw [q]; exact ii)) fl.zp, I3, hs₃.1.trans fl.size, fun c o c1 c3 e => hs₃.extBut _ _ (fun q => c3 (by rw [q]; exact ii)) (fl.keep c o c1 c3 e)⟩
    have e3 : us.take (j + 1) = us.take j ++ [u] := by
      rw [List.take_add_one, hu]
      rfl
    rw [e3]
    simp
  · obtain ⟨rfl, h, rfl, fl⟩ := q
    have len : ((is.map Value.ref).toArray.toList).length = is.length := by simp
    rw [len] at fl ⊢
    have e4 : us.take is.length = us := List.take_of_length_le (by omega)
    rw [e4]
    dsimp only
    refine wpAny_bind (wpAny_newTuple ?_ (by simpa using big))
    refine wpAny_pure ⟨_, rfl, ?_⟩
    show Q (.ref h.objs.size) _
    have hp : IsTup (h.push { cls := .type "tuple", data := .seq us.toArray.toList.toArray }) h.objs.size us := Heap.get?_push_size _ rfl
    have hz4 : (h.push { cls := .type "tuple", data := .seq us.toArray.toList.toArray }).objs.size = h.objs.size + 1 := Heap.size_push ..
    rw [fl.size] at hp hz4 ⊢
    exact hQ _ _ (Heap.get?_push_of_some _ fl.zp) (its_next (its_same fl.its fun i hi o e => Heap.get?_push_of_some _ e)) hp hz4 fun c o c1 c2 e => Heap.get?_push_of_some _ (fl.keep c o c1 c2 e)
/-- the k-th tuple, whether the tuple ahead of it is still kept or not -/
theorem next_item {is : List Addr} {ls : List (Bool × Addr)} {us ws : List Value} {z TI TO : Addr} {f0 f1 : Value} {k : Nat} {Q : Value → Shared → Prop} (D : Apart z TI TO is ls) (hz : IsZipN s.heap z TI TO f0 f1) (hf : F0 f0) (hTI : IsTup s.heap TI (is.map .ref)) (hTO : IsTup s.heap TO ws) (lw : ws.length = us.length) (lu : us.length = is.length) (ll : ls.length = is.length)
    (hI : Its s.heap is ls k 0) (hR : Row s.heap ls k us) (hn : is ≠ []) (big : us.length ≤ sizeLine)
    (hQ : ∀ h' f0' f1', IsZipN h' z TI TO f0' f1' → F0 f0' → (∃ ws', IsTup h' TO ws' ∧ ws'.length = us.length) → Its h' is ls (k + 1) 0 → IsTup h' s.heap.objs.size us → Kept s.heap h' z TO is → Q (.ref s.heap.objs.size) { s with heap := h' }) :
    wpAny (model prog w) A (Builtin.«zip.__next__» ⟨[.ref z], []⟩) (fun fin s' => ∃ v, fin = .done (.ret v) ∧ Q v s') E s := by
  have held : (∀ (Q : Bool → Shared → Prop), (∀ h' f1', IsZipN h' z TI TO f0 f1' → Heap.SameBut z s.heap h' → Q false { s with heap := h' }) → wpAny (model prog w) A (Builtin.SmallTypes.ownedTupleIsFree (.ref z)) Q E s) →
      wpAny (model prog w) A (Builtin.«zip.__next__» ⟨[.ref z], []⟩) (fun fin s' => ∃ v, fin = .done (.ret v) ∧ Q v s') E s := fun hfree =>
    next_held D hz hf hTI lu ll hI hR hn big (fun h' f1' a1 a2 a3 a4 a5 => hQ h' f0 f1' a1 hf ⟨ws, a5 _ _ D.TOz D.TOi hTO, lw⟩ a2 a3 ⟨a4, fun c o c1 _ c3 e => a5 c o c1 c3 e⟩) hfree
  rcases hf with rfl | ⟨T, rfl⟩
  · refine next_free D hz hTI hTO lw lu ll hI hR hn big hQ fun Q h => ?_
    unfold Builtin.SmallTypes.ownedTupleIsFree
    exact wpAny_bind (wpAny_field hz rfl (x := .none) rfl (wpAny_pure (h s.heap f1 hz (Heap.SameBut.refl _ _))))
  · cases hT : s.heap.get? T with
    | none =>
      refine next_free D hz hTI hTO lw lu ll hI hR hn big hQ fun Q h => ?_
      unfold Builtin.SmallTypes.ownedTupleIsFree
      refine wpAny_bind (wpAny_field hz rfl (x := rawInt T) rfl ?_)
      show wpAny _ _ (loadIfAlive ((T : Int).toNat) >>= _) _ _ _
      rw [Int.toNat_natCast]
      have alive : ∀ {Q2 : Option Obj → Shared → Prop}, Q2 none s → wpAny (model prog w) A (loadIfAlive T) Q2 E s := fun {Q2} q => by
        have h' : Q2 (s.heap.get? T) s := by rw [hT]; exact q
        exact fun _ _ _ => h'
      refine wpAny_bind (alive ?_)
      simp only [Option.isNone_none, if_true]
      exact wpAny_pure (h s.heap f1 hz (Heap.SameBut.refl _ _))
    | some oT =>
      refine held fun Q h => ?_
      unfold Builtin.SmallTypes.ownedTupleIsFree
      refine wpAny_bind (wpAny_field hz rfl (x := rawInt T) rfl ?_)
      show wpAny _ _ (loadIfAlive ((T : Int).toNat) >>= _) _ _ _
      rw [Int.toNat_natCast]
      refine wpAny_bind (PySem.W.kdx_alive hT ?_)
      simp only [Option.isNone_some, Bool.false_eq_true, if_false]
      refine wpAny_bind (wpAny_field hz rfl (x := f1) rfl ?_)
      by_cases c : (f1 != Value.bool true) = true
      · rw [if_pos c]
        exact wpAny_bind (wpAny_setField_rec hz (by simp) fun h₁ hz₁ hs₁ => wpAny_pure (h h₁ _ hz₁ hs₁))
      · rw [if_neg c]
        exact wpAny_pure (h s.heap f1 hz (Heap.SameBut.refl _ _))
end
end ZN
set_option maxRecDepth 100000
set_option maxHeartbeats 1000000
namespace ZN
open PySem
open PySem.Sem (wp)
section
variable {prog : Program} {w : World} {A : Around} {E : Value → Shared → Prop} {s : Shared}
theorem next_end {i0 : Addr} {l0 : Bool × Addr} {is : List Addr} {ls : List (Bool × Addr)} {z TI TO : Addr} {f0 f1 : Value} {k : Nat} {xs : Array Value} {Q : Fin → Shared → Prop} (hh : A.handled = none) (D : Apart z TI TO (i0 :: is) (l0 :: ls)) (hz : IsZipN s.heap z TI TO f0 f1) (hf : F0 f0) (hTI : IsTup s.heap TI ((i0 :: is).map .ref))
    (hI : IterB s.heap l0.1 i0 l0.2 k) (hl : SeqB s.heap l0.1 l0.2 xs) (hx : xs[k]? = none)
    (hE : ∀ h' e, (∀ c o, c ≠ z → c ≠ TO → c ∉ i0 :: is → s.heap.get? c = some o → h'.get? c = some o) → (∃ o, h'.get? e = some o ∧ o.cls = .type "StopIteration") → E (.ref e) { s with heap := h' }) :
    wpAny (model prog w) A (Builtin.«zip.__next__» ⟨[.ref z], []⟩) Q E s := by
  show wpAny _ _ (field (.ref z) 2 >>= _) _ _ _
  refine wpAny_bind (wpAny_field hz rfl (x := .bool false) rfl ?_)
  show wpAny _ _ (field (.ref z) 3 >>= _) _ _ _
  refine wpAny_bind (wpAny_field hz rfl (x := .ref TI) rfl ?_)
  refine wpAny_bind (wpAny_seqItems hTI rfl ?_)
  have ne : (((i0 :: is).map Value.ref).toArray).isEmpty = false := rfl
  simp only [ne, Bool.false_eq_true, if_false]
  obtain ⟨lz, lTO, li⟩ := D.lz l0 (by simp)
  have iz : i0 ≠ z := fun q => D.zi (by rw [← q]; simp)
  have li0 : l0.2 ≠ i0 := fun q => li (by rw [q]; simp)
  have i0m : ∀ c : Addr, c ∉ i0 :: is → c ≠ i0 := fun c h q => h (by rw [q]; simp)
  refine wpAny_bind (isFree hz hf fun h₁ b f1' hz₁ hs₁ => ?_)
  have hI₁ : IterB h₁ l0.1 i0 l0.2 k := hI.at fun o q => hs₁.extBut _ _ iz q
  have hl₁ : SeqB h₁ l0.1 l0.2 xs := hl.at fun o q => hs₁.extBut _ _ lz q
  cases b with
  | true =>
    simp only [if_true]
    refine wpAny_bind (wpAny_rule ?_)
    refine wpAny_bind (wpAny_field hz₁ rfl (x := .ref TO) rfl ?_)
    refine wpAny_bind (wpAny_setField_rec hz₁ (by simp) fun h₂ hz₂ hs₂ => ?_)
    replace hz₂ : IsZipN h₂ z TI TO .ellipsis f1' := hz₂
    refine wpAny_bind ?_
    simp only [List.map_cons, List.zipIdx_cons, List.forIn_cons]
    refine wpAny_bind (wpAny_bind (wpAny_onRaise ?_))
    show wpAny _ _ (Builtin.SmallTypes.nextOf (.ref i0) >>= _) _ _ _
    refine wpAny_bind (nextB_end hh (hI₁.at fun o q => hs₂.extBut _ _ iz q) (hl₁.at fun o q => hs₂.extBut _ _ lz q) hx fun h₃ e hs₃ he => ?_)
    obtain ⟨oe, hoe, hce⟩ := he
    have hz₃ : IsZipN h₃ z TI TO .ellipsis f1' := hs₃ _ _ iz.symm hz₂
    have hez : e ≠ z := fun x => by subst x; rw [hz₃] at hoe; cases hoe; simp at hce
    refine wpAny_setField_rec hz₃ (by simp) fun h₄ _ hs₄ => hE h₄ e (fun c o c1 _ c3 x => hs₄.extBut _ _ c1 (hs₃ _ _ (i0m c c3) (hs₂.extBut _ _ c1 (hs₁.extBut _ _ c1 x)))) ⟨oe, hs₄.extBut _ _ hez hoe, hce⟩
  | false =>
    simp only [Bool.false_eq_true, if_false]
    refine wpAny_bind ?_
    rw [← Array.forIn_toList]
    simp only [List.map_cons, List.forIn_cons]
    refine wpAny_bind (wpAny_bind (wpAny_holding ?_))
    show wpAny _ _ (Builtin.SmallTypes.nextOf (.ref i0) >>= _) _ _ _
    refine wpAny_bind (nextB_end (s := { s with heap := h₁ }) hh hI₁ hl₁ hx fun h₂ e hs₂ he => ?_)
    exact hE h₂ e (fun c o c1 _ c3 x => hs₂ _ _ (i0m c c3) (hs₁.extBut _ _ c1 x)) he
theorem pyNext_item {is : List Addr} {ls : List (Bool × Addr)} {us ws : List Value} {z TI TO : Addr} {f0 f1 : Value} {k : Nat} {Q : Option Value → Shared → Prop} (D : Apart z TI TO is ls) (hz : IsZipN s.heap z TI TO f0 f1) (hf : F0 f0) (hTI : IsTup s.heap TI (is.map .ref)) (hTO : IsTup s.heap TO ws) (lw : ws.length = us.length) (lu : us.length = is.length) (ll : ls.length = is.length)
    (hI : Its s.heap is ls k 0) (hR : Row s.heap ls k us) (hn : is ≠ []) (big : us.length ≤ sizeLine)
    (hQ : ∀ h' f0' f1', IsZipN h' z TI TO f0' f1' → F0 f0' → (∃ ws', IsTup h' TO ws' ∧ ws'.length = us.length) → Its h' is ls (k + 1) 0 → IsTup h' s.heap.objs.size us → Kept s.heap h' z TO is → Q (some (.ref s.heap.objs.size)) { s with heap := h' }) :
    wpAny (model prog w) A (pyNext (.ref z)) Q E s := by
  have hT : s.TypeIs (.ref z) "zip" := ⟨_, hz, rfl⟩
  unfold pyNext
  exact wpAny_bind (wpAny_attempt (wpAny_callSpecial?_slot (name := Str.ofString "__next__") hT F.slot_zip_next
    (wpAny_call_entry F.slot_zip_next hT F.entry_zip_next
      (next_item D hz hf hTI hTO lw lu ll hI hR hn big fun h' f0' f1' a1 a2 a3 a4 a5 a6 => wpAny_pure (hQ h' f0' f1' a1 a2 a3 a4 a5 a6)) (F.args_zip_next_1 _))))
theorem pyNext_end {i0 : Addr} {l0 : Bool × Addr} {is : List Addr} {ls : List (Bool × Addr)} {z TI TO : Addr} {f0 f1 : Value} {k : Nat} {xs : Array Value} {Q : Option Value → Shared → Prop} (hh : A.handled = none) (D : Apart z TI TO (i0 :: is) (l0 :: ls)) (hz : IsZipN s.heap z TI TO f0 f1) (hf : F0 f0) (hTI : IsTup s.heap TI ((i0 :: is).map .ref))
    (hI : IterB s.heap l0.1 i0 l0.2 k) (hl : SeqB s.heap l0.1 l0.2 xs) (hx : xs[k]? = none)
    (hQ : ∀ h', (∀ c o, c ≠ z → c ≠ TO → c ∉ i0 :: is → s.heap.get? c = some o → h'.get? c = some o) → Q none { s with heap := h' }) : wpAny (model prog w) A (pyNext (.ref z)) Q E s := by
  have hTy : s.TypeIs (.ref z) "zip" := ⟨_, hz, rfl⟩
  unfold pyNext
  refine wpAny_bind (wpAny_attempt (wpAny_callSpecial?_slot (name := Str.ofString "__next__") hTy F.slot_zip_next
    (wpAny_call_entry F.slot_zip_next hTy F.entry_zip_next (next_end hh D hz hf hTI hI hl hx fun h' e hk he => ?_) (F.args_zip_next_1 _))))
  obtain ⟨o, ho, hc⟩ := he
  refine wpAny_bind (wpAny_isInstance (T := "StopIteration") (b := true) ⟨o, ho, hc⟩ isSubtype_stop ?_)
  exact wpAny_pure (hQ _ hk)
theorem pyIter_zipN {z TI TO : Addr} {f0 f1 : Value} {Q : Value → Shared → Prop} (hz : IsZipN s.heap z TI TO f0 f1) (h : Q (.ref z) s) : wpAny (model prog w) A (pyIter (.ref z)) Q E s := by
  have hT : s.TypeIs (.ref z) "zip" := ⟨_, hz, rfl⟩
  refine wpAny_pyIter_slot hT F.slot_zip_iter (wpAny_call_entry F.slot_zip_iter hT F.entry_zip_iter ?_ (F.args_zip_iter_1 _))
  show wpAny _ _ (ret (.ref z)) _ _ s
  exact wpAny_pure ⟨_, rfl, "zip", _, hT, F.slot_zip_next.lookup, h⟩
end
end ZN
set_option maxRecDepth 100000
set_option maxHeartbeats 1000000
namespace ZN
open PySem
open PySem.Sem (wp)
theorem typeCall_zip (vs : List Value) : checkTypeCall "zip" ⟨vs, []⟩ = pure () := by
  cases vs with
  | nil => kernel_rfl
  | cons a r => kernel_rfl
theorem newCall_zip (vs : List Value) : checkBuiltinCall "zip.__new__" ⟨.type "zip" :: vs, []⟩ = pure () := by
  cases vs with
  | nil => kernel_rfl
  | cons a r => kernel_rfl
theorem args_init (obj : Value) (vs : List Value) : argsOk "object.__init__" ⟨obj :: vs, []⟩ := by
  unfold argsOk; rw [signature?_of (id := "object.__init__") (n := ['_', '_', 't', 'i', 'n', 'i', '_', '_']) (o := ['t', 'c', 'e', 'j', 'b', 'o']) (by kernel_rfl) F.owner_object]; kernel_rfl
end ZN
set_option maxRecDepth 100000
set_option maxHeartbeats 1000000
namespace ZN
open PySem
open PySem.Sem (wp)
section
variable {prog : Program} {w : World} {A : Around} {E : Value → Shared → Prop} {s : Shared}
def its0 (n m : Nat) : List Addr := (List.range m).map (n + ·)
theorem its0_at {n m j : Nat} {i : Addr} (e : (its0 n m)[j]? = some i) : j < m ∧ i = n + j := by
  unfold its0 at e
  rw [List.getElem?_map] at e
  by_cases c : j < m
  · rw [List.getElem?_range c] at e
    cases e
    exact ⟨c, rfl⟩
  · rw [List.getElem?_eq_none (by simpa using c)] at e
    cases e
theorem its0_len (n m : Nat) : (its0 n m).length = m := by unfold its0; simp
theorem its0_succ (n j : Nat) : its0 n (j + 1) = its0 n j ++ [n + j] := by
  unfold its0
  rw [List.range_succ, List.map_append]
  rfl
theorem its0_mem {n m : Nat} {c : Addr} (h : c ∈ its0 n m) : n ≤ c ∧ c < n + m := by
  unfold its0 at h
  obtain ⟨a, ha, e⟩ := List.mem_map.mp h
  have := List.mem_range.mp ha
  have e : n + a = c := e
  subst e
  exact ⟨Nat.le_add_right _ _, Nat.add_lt_add_left this _⟩
theorem its0_nodup (n m : Nat) : (its0 n m).Nodup := by
  unfold its0
  unfold List.Nodup
  rw [List.pairwise_map]
  exact (List.nodup_range (n := m)).imp fun h e => h (Nat.add_left_cancel e)
theorem pyIterB {b : Bool} {l : Addr} {xs : Array Value} {Q : Value → Shared → Prop} (hl : SeqB s.heap b l xs) (hQ : ∀ o : Obj, o.isFreed = false → (∀ h' : Heap, h'.get? s.heap.objs.size = some o → IterB h' b s.heap.objs.size l 0) → Q (.ref s.heap.objs.size) { s with heap := s.heap.push o }) :
    wpAny (model prog w) A (pyIter (.ref l)) Q E s := by
  cases b with
  | true => exact wpAny_pyIter_list hl (hQ _ rfl fun h' e => ⟨_, e, rfl, rfl⟩)
  | false => exact wpAny_pyIter_tuple hl (hQ _ rfl fun h' e => ⟨_, e, rfl, rfl⟩)
structure Made (h0 h : Heap) (ls : List (Bool × Addr)) (j : Nat) : Prop where
  size : h.objs.size = h0.objs.size + j
  its : ∀ (m : Nat) (l : Bool × Addr), m < j → ls[m]? = some l → IterB h l.1 (h0.objs.size + m) l.2 0
  keep : ∀ c o, h0.get? c = some o → h.get? c = some o
theorem iterAll_lists {ls : List (Bool × Addr)} {Q : List Value → Shared → Prop} (hl : ∀ l ∈ ls, ∃ xs, SeqB s.heap l.1 l.2 xs) (hQ : ∀ h, Made s.heap h ls ls.length → Q ((its0 s.heap.objs.size ls.length).map .ref) { s with heap := h }) :
    wpAny (model prog w) A (Builtin.SmallTypes.iterAll (ls.map fun l => .ref l.2)) Q E s := by
  unfold Builtin.SmallTypes.iterAll
  have e0 : (#[] : Array Value) = ((its0 s.heap.objs.size 0).map Value.ref).toArray := rfl
  rw [e0]
  refine wpAny_bind (wpAny_mono (forIn_all (M := model prog w) (A := A) _ (fun j => ((its0 s.heap.objs.size j).map Value.ref).toArray) (fun j s' => ∃ h, s' = { s with heap := h } ∧ Made s.heap h ls j) _ E ?_ ⟨s.heap, rfl, rfl, fun m _ q => absurd q (Nat.not_lt_zero m), fun _ _ e => e⟩) (fun r s' q => ?_) fun _ _ q => q)
  · rintro j x s' ej ⟨h, rfl, md⟩
    rw [List.getElem?_map] at ej
    obtain ⟨l, el, rfl⟩ : ∃ l, ls[j]? = some l ∧ x = .ref l.2 := by
      cases q : ls[j]? with
      | none => rw [q] at ej; cases ej
      | some l =>
        rw [q] at ej
        cases ej
        exact ⟨l, rfl, rfl⟩
    obtain ⟨xs, hxs⟩ := hl l (List.mem_of_getElem? el)
    have hL : SeqB h l.1 l.2 xs := hxs.at fun o e => md.keep l.2 o e
    refine wpAny_bind (wpAny_holding (pyIterB (s := { s with heap := h }) hL fun o fr hat => ?_))
    refine wpAny_pure ⟨?_, _, rfl, ?_, fun m l' hm el' => ?_, fun c o e => Heap.get?_push_of_some _ (md.keep c o e)⟩
    · rw [its0_succ]
      simp [md.size]
    · show (Heap.push _ _).objs.size = _
      rw [Heap.size_push]
      show h.objs.size + 1 = _
      rw [md.size]
      omega
    · by_cases c : m = j
      · subst c
        rw [el] at el'
        cases el'
        rw [← md.size]
        exact hat _ (Heap.get?_push_size _ fr)
      · exact (md.its m l' (by omega) el').at fun o e => Heap.get?_push_of_some _ e
  · obtain ⟨rfl, h, rfl, md⟩ := q
    have len : (ls.map fun l => Value.ref l.2).length = ls.length := by simp
    rw [len] at md ⊢
    exact wpAny_pure (hQ h md)
theorem meets_new (ls : List (Bool × Addr)) (big : ls.length ≤ sizeLine) :
    Meets (Builtin.«zip.__new__» ⟨.type "zip" :: ls.map fun l => .ref l.2, []⟩) (fun _ R s => (∀ l ∈ ls, ∃ xs, SeqB s.heap l.1 l.2 xs) ∧ ∀ h', h'.objs.size = s.heap.objs.size + ls.length + 3 → (∀ c o, s.heap.get? c = some o → h'.get? c = some o) → Its h' (its0 s.heap.objs.size ls.length) ls 0 0 →
      IsTup h' (s.heap.objs.size + ls.length) ((its0 s.heap.objs.size ls.length).map .ref) → IsTup h' (s.heap.objs.size + ls.length + 1) (List.replicate ls.length .none) → IsZipN h' (s.heap.objs.size + ls.length + 2) (s.heap.objs.size + ls.length) (s.heap.objs.size + ls.length + 1) .none (.bool false) →
      R (.ok (.ret (.ref (s.heap.objs.size + ls.length + 2)))) { s with heap := h' }) :=
  .of_wp fun prog w A R s h => by
    obtain ⟨hl, h⟩ := h
    have hsub := sub_zip
    unfold Builtin.«zip.__new__»
    have hnc : ∀ {Q : Value × List Value → Shared → Prop}, Q (.type "zip", ls.map fun l => .ref l.2) s → wpAny (model prog w) A.in1 (Builtin.SmallTypes.newClass "zip" ⟨.type "zip" :: ls.map fun l => .ref l.2, []⟩) Q (fun e s' => R (.error e) s') s := fun {Q} q => by
      obtain ⟨hp, g, d, tk, os⟩ := s
      unfold Builtin.SmallTypes.newClass
      wp_walk
      exact q
    refine wpAny_bind (hnc ?_)
    dsimp only
    rw [if_neg (by simp)]
    refine wpAny_bind (iterAll_lists hl fun h1 md => ?_)
    refine wpAny_bind (wpAny_newTuple ?_ (by rw [List.length_map, its0_len]; exact big))
    refine wpAny_bind (wpAny_newTuple ?_ (by rw [List.length_map, List.length_map, its0_len]; exact big))
    unfold Builtin.SmallTypes.newRecord Builtin.SmallTypes.ownedTupleFields
    refine wpAny_bind ?_
    refine wpAny_newObj_type ?_ (by size_fits)
    refine wpAny_pure ⟨_, rfl, ?_⟩
    have ez : (((its0 s.heap.objs.size ls.length).map Value.ref).map fun _ => Value.none) = List.replicate ls.length .none := by
      rw [List.map_const', List.length_map, its0_len]
    have z1 := md.size
    let h2 : Heap := h1.push { cls := .type "tuple", data := .seq ((its0 s.heap.objs.size ls.length).map Value.ref).toArray }
    let h3 : Heap := h2.push { cls := .type "tuple", data := .seq (((its0 s.heap.objs.size ls.length).map Value.ref).map fun _ => Value.none).toArray }
    let h4 : Heap := h3.push { cls := .type "zip", data := .fields #[.none, .bool false, .bool false, .ref h1.objs.size, .ref h2.objs.size] }
    have z2 : h2.objs.size = s.heap.objs.size + ls.length + 1 := (Heap.size_push ..).trans (by rw [z1])
    have z3 : h3.objs.size = s.heap.objs.size + ls.length + 2 := (Heap.size_push ..).trans (by rw [z2])
    have z4 : h4.objs.size = s.heap.objs.size + ls.length + 3 := (Heap.size_push ..).trans (by rw [z3])
    have g2 : h4.get? h1.objs.size = some { cls := .type "tuple", data := .seq ((its0 s.heap.objs.size ls.length).map Value.ref).toArray } := Heap.get?_push_of_some _ (Heap.get?_push_of_some _ (Heap.get?_push_size _ rfl))
    have g3 : h4.get? h2.objs.size = some { cls := .type "tuple", data := .seq (((its0 s.heap.objs.size ls.length).map Value.ref).map fun _ => Value.none).toArray } := Heap.get?_push_of_some _ (Heap.get?_push_size _ rfl)
    have g4 : h4.get? h3.objs.size = some { cls := .type "zip", data := .fields #[.none, .bool false, .bool false, .ref h1.objs.size, .ref h2.objs.size] } := Heap.get?_push_size _ rfl
    have up : ∀ c o, h1.get? c = some o → h4.get? c = some o := fun c o e => Heap.get?_push_of_some _ (Heap.get?_push_of_some _ (Heap.get?_push_of_some _ e))
    show R (.ok (.ret (.ref h3.objs.size))) { s with heap := h4 }
    rw [z1] at g2
    rw [z2, ez] at g3
    rw [z1, z2, z3] at g4
    rw [z3]
    refine h h4 z4 (fun c o e => up c o (md.keep c o e)) (fun m i l a b => ?_) g2 g3 g4
    obtain ⟨hm, rfl⟩ := its0_at a
    rw [if_neg (Nat.not_lt_zero m)]
    exact (md.its m l hm b).at fun o e => up _ o e
theorem call_zipN {ls : List (Bool × Addr)} {Q : Value → Shared → Prop} (big : ls.length ≤ sizeLine) (hl : ∀ l ∈ ls, ∃ xs, SeqB s.heap l.1 l.2 xs)
    (h : ∀ h', h'.objs.size = s.heap.objs.size + ls.length + 3 → (∀ c o, s.heap.get? c = some o → h'.get? c = some o) → Its h' (its0 s.heap.objs.size ls.length) ls 0 0 →
      IsTup h' (s.heap.objs.size + ls.length) ((its0 s.heap.objs.size ls.length).map .ref) → IsTup h' (s.heap.objs.size + ls.length + 1) (List.replicate ls.length .none) → IsZipN h' (s.heap.objs.size + ls.length + 2) (s.heap.objs.size + ls.length) (s.heap.objs.size + ls.length + 1) .none (.bool false) →
      Q (.ref (s.heap.objs.size + ls.length + 2)) { s with heap := h' }) :
    wpAny (model prog w) A (call (.type "zip") (ls.map fun l => .ref l.2)) Q E s := by
  refine callType_new F.called_zip (by decide) (typeCall_zip _) (newCall_zip _) (fun obj => args_init obj _) F.entry_zip_new (meets_new ls big) ⟨hl, fun h' a1 a2 a3 a4 a5 a6 => ?_⟩
  exact ⟨⟨_, a6, rfl⟩, h h' a1 a2 a3 a4 a5 a6⟩
theorem apart0 (h : Heap) {ls : List (Bool × Addr)} (lt : ∀ l ∈ ls, l.2 < h.objs.size) : Apart (h.objs.size + ls.length + 2) (h.objs.size + ls.length) (h.objs.size + ls.length + 1) (its0 h.objs.size ls.length) ls := by
  have le : ∀ {a b : Nat}, a + b + 1 ≠ a + b := fun {a b} => Nat.succ_ne_self _
  refine ⟨Nat.ne_of_lt (by exact Nat.lt_add_of_pos_right (by decide)), Nat.ne_of_lt (Nat.lt_succ_self _), Nat.ne_of_lt (Nat.lt_succ_self _), fun m => ?_, fun m => ?_, fun m => ?_, its0_nodup _ _, fun l hl => ⟨?_, ?_, fun m => ?_⟩⟩
  · exact absurd (its0_mem m).2 (Nat.not_lt.mpr (Nat.le_add_right _ _))
  · exact absurd (its0_mem m).2 (Nat.lt_irrefl _)
  · exact absurd (its0_mem m).2 (Nat.not_lt.mpr (Nat.le_add_right _ _))
  · exact Nat.ne_of_lt (Nat.lt_of_lt_of_le (lt l hl) (Nat.le_trans (Nat.le_add_right _ _) (Nat.le_add_right _ _)))
  · exact Nat.ne_of_lt (Nat.lt_of_lt_of_le (lt l hl) (Nat.le_trans (Nat.le_add_right _ _) (Nat.le_add_right _ _)))
  · exact absurd (lt l hl) (Nat.not_lt.mpr (its0_mem m).1)
end
end ZN
set_option maxRecDepth 100000
set_option maxHeartbeats 1000000
namespace ZN
open PySem PySem.Spec PyProof.Rows L2
/-- the list, the tuple at l -/
def SqB (K : PySem.W.Frag) (H : Hp) (l : Bool × Addr) (xs : List V) : Prop := match l.1 with
  | true => SqL K H l.2 xs
  | false => SqT K H l.2 xs
/-- the lists and tuples as, side by side: a new tuple at each turn -/
def ItzN (K : PySem.W.Frag) (as : List (Bool × Addr)) : It :=
  ⟨fun i H => ∃ vs : List V, vs.length = as.length ∧ ∀ (m : Nat) (a : Bool × Addr), as[m]? = some a → ∃ (xs : List V) (v : V), SqB K H a xs ∧ vs[m]? = some v ∧ xs[i]? = some v,
    fun i H v H' => ∃ (T : Addr) (ob : Obj) (vs : List V), v = .ref T ∧ H T = none ∧ ob.dict = none ∧ H' = upd H T (.frz ob (.tup vs)) ∧ vs.length = as.length ∧ ∀ (m : Nat) (a : Bool × Addr) (xs : List V), as[m]? = some a → SqB K H a xs → xs[i]? = vs[m]? ∧ vs[m]?.isSome,
    fun i H => ∃ (a : Bool × Addr) (xs : List V), as[0]? = some a ∧ SqB K H a xs ∧ xs.length ≤ i⟩
section
variable {X : Cx} {pins : List (Addr × Obj)} {σ : L2.St} {H : Hp} {s : Shared}
theorem seqB (I : Inv X pins σ H s) {l : Bool × Addr} {xs : List V} (q : SqB X.K H l xs) : ∃ its : List Value, Vals xs its ∧ SeqB s.heap l.1 l.2 its.toArray := by
  obtain ⟨b, a⟩ := l
  cases b with
  | true =>
    obtain ⟨its, rv, p, _⟩ := I.list q
    exact ⟨its, rv, p.isList⟩
  | false =>
    obtain ⟨its, rv, p, _⟩ := I.tuple q
    exact ⟨its, rv, p⟩
theorem seqB_inj (I : Inv X pins σ H s) {l : Bool × Addr} {xs ys : List V} (q : SqB X.K H l xs) (r : SqB X.K H l ys) : xs = ys := by
  obtain ⟨b, a⟩ := l
  cases b with
  | true => exact I.list_inj q r
  | false => exact I.tuple_inj q r
/-- the tuple that was kept is let go, or not -/
theorem goN {tg : Expr} {z TI TO T : Addr} {f0 f1 : Value} {prog : Program} {w : World} {A : Around} {E : Value → Shared → Prop} {Q : Unit → Shared → Prop} (hz : IsZipN s.heap z TI TO f0 f1) (hf : F0 f0)
    (hQ : ∀ h' f0', IsZipN h' z TI TO f0' f1 → F0 f0' → Heap.SameBut z s.heap h' → Q () { s with heap := h' }) : wpAny (model prog w) A (letOwnedTupleGo tg (.ref z) (.ref T)) Q E s := by
  have same : wpAny (model prog w) A (pure () : Sem Unit) Q E s := wpAny_pure (hQ s.heap f0 hz hf (Heap.SameBut.refl _ _))
  cases tg <;> first
    | exact same
    | (unfold letOwnedTupleGo
       refine wpAny_bind (wpAny_load hz ?_)
       show wpAny _ _ (if (["enumerate", "zip", "dict_itemiterator", "dict_reverseitemiterator", "odict_iterator", "itertools.zip_longest", "itertools.pairwise"].contains "zip" && (#[f0, f1, .bool false, .ref TI, .ref TO] : Array Value)[0]? == some (rawInt T)) = true then _ else _) Q E s
       split
       · refine wpAny_bind (wpAny_rule ?_)
         show wpAny _ _ (setField (.ref z) 0 .none) Q E s
         refine wpAny_setField_rec hz (by simp) fun h' hz' hs' => ?_
         replace hz' : IsZipN h' z TI TO .none f1 := hz'
         exact hQ h' .none hz' (.inl rfl) hs'
       · exact same)
end
theorem turn_zipN {P : Program} {w : World} {K : PySem.W.Frag} {tg : Expr} {as : List (Bool × Addr)} {is : List Addr} {z TI TO : Addr} (D : Apart z TI TO is as) (hn : is ≠ []) (ll : as.length = is.length) (big : as.length ≤ sizeLine) :
    Turn P w K tg (ItzN K as) (z :: TI :: TO :: is) z (fun i h => (∃ f0 f1, IsZipN h z TI TO f0 f1 ∧ F0 f0) ∧ IsTup h TI (is.map .ref) ∧ (∃ ws, IsTup h TO ws ∧ ws.length = is.length) ∧ Its h is as i 0) where
  mem := by simp
  obj := fun i h st c hc => by
    obtain ⟨⟨f0, f1, hz, _⟩, hTI, ⟨ws, hTO, _⟩, hI⟩ := st
    rcases List.mem_cons.mp hc with q | hc
    · rw [q]; exact ⟨_, hz, fun v q => nomatch q⟩
    rcases List.mem_cons.mp hc with q | hc
    · rw [q]; exact ⟨_, hTI, fun v q => nomatch q⟩
    rcases List.mem_cons.mp hc with q | hc
    · rw [q]; exact ⟨_, hTO, fun v q => nomatch q⟩
    obtain ⟨m, hm, em⟩ := List.mem_iff_getElem.mp hc
    have ei : is[m]? = some c := by rw [List.getElem?_eq_getElem hm, em]
    exact (hI m c (as[m]'(by omega)) ei (List.getElem?_eq_getElem (by omega))).there
  keep := fun i h h' st k => by
    obtain ⟨⟨f0, f1, hz, hf⟩, hTI, ⟨ws, hTO, lw⟩, hI⟩ := st
    exact ⟨⟨f0, f1, k z (by simp) _ hz, hf⟩, k TI (by simp) _ hTI, ⟨ws, k TO (by simp) _ hTO, lw⟩, its_same hI fun i' hi o e => k i' (by simp [hi]) o e⟩
  item := by
    intro X hP hw hK hc i pins s σ H E I hf st hg
    subst hP hw hK
    obtain ⟨⟨f0, f1, hz, hf0⟩, hTI, ⟨ws, hTO, lw⟩, hI⟩ := st
    obtain ⟨vs, lv, hg⟩ := hg
    have row : ∃ us : List Value, us.length = as.length ∧ Vals vs us ∧ Row s.heap as i us := by
      have all : ∀ (as : List (Bool × Addr)) (vs : List V), vs.length = as.length → (∀ (m : Nat) (a : Bool × Addr), as[m]? = some a → ∃ (xs : List V) (v : V), SqB X.K H a xs ∧ vs[m]? = some v ∧ xs[i]? = some v) → ∃ us : List Value, us.length = as.length ∧ Vals vs us ∧ Row s.heap as i us := by
        intro as
        induction as with
        | nil =>
          intro vs lv _
          obtain rfl : vs = [] := List.length_eq_zero_iff.mp lv
          exact ⟨[], rfl, .nil, fun m l e => by simp at e⟩
        | cons a as ih =>
          intro vs lv hg
          cases vs with
          | nil => cases lv
          | cons v vs =>
            obtain ⟨xs, v', hq, hv, hx⟩ := hg 0 a rfl
            cases hv
            obtain ⟨its, rv, p⟩ := seqB I hq
            obtain ⟨u, hu, ru⟩ := rv.get hx
            obtain ⟨us, lu, rus, R⟩ := ih vs (by simpa using lv) fun m b e => hg (m + 1) b (by simpa using e)
            refine ⟨u :: us, by simp [lu], .cons ru rus, fun m l e => ?_⟩
            cases m with
            | zero =>
              cases e
              exact ⟨its.toArray, u, p, rfl, by simpa using hu⟩
            | succ m => exact R m l (by simpa using e)
      exact all as vs lv hg
    obtain ⟨us, lu, rus, R⟩ := row
    refine pyNext_item D hz hf0 hTI hTO (by omega) (by omega) ll hI R hn (by omega) fun h1 f0' f1' z1 hf1 TO1 I1' hT1 kp1 => ?_
    refine ⟨_, rfl, goN (s := { s with heap := h1 }) z1 hf1 fun h' f0'' z' hf' sb => ?_⟩
    have hzl : z < s.heap.objs.size := Heap.lt_size hz
    have TO' : ∃ ws', IsTup h' TO ws' ∧ ws'.length = us.length := TO1.elim fun ws' x => ⟨ws', sb.extBut _ _ D.TOz x.1, x.2⟩
    have I' : Its h' is as (i + 1) 0 := its_same I1' fun i' hi o e => sb.extBut _ _ (fun q => D.zi (by rw [← q]; exact hi)) e
    have hT : IsTup h' s.heap.objs.size us := sb.extBut _ _ (Nat.ne_of_gt hzl) hT1
    have kp : ∀ c o, c ≠ z → c ≠ TO → c ∉ is → s.heap.get? c = some o → h'.get? c = some o := fun c o c1 c2 c3 e => sb.extBut _ _ c1 (kp1.keep c o c1 c2 c3 e)
    let ob : Obj := { cls := .type "tuple", data := .seq us.toArray }
    have new : ObjOk X.prog X.w (upd H s.heap.objs.size (.frz ob (.tup vs))) h' s.heap.objs.size (.frz ob (.tup vs)) :=
      ⟨hT, by omega, us, rus, ⟨_, hT, rfl, _, rfl⟩⟩
    have I1 : Inv X pins σ (upd H s.heap.objs.size (.frz ob (.tup vs))) { s with heap := h' } :=
      I.turnedNew (t' := s.toks) (ch := z :: TI :: TO :: is) (fun c o hb q => kp c o (fun q' => hb (by simp [q'])) (fun q' => hb (by simp [q'])) (fun q' => hb (by simp [q'])) q) hf (Nat.le_refl _) new
    refine ⟨.ref s.heap.objs.size, _, I1, rfl, ⟨_, ob, vs, rfl, I.hok.fresh (Nat.le_refl _), rfl, rfl, lv, fun m a xs ea hq => ?_⟩, ⟨⟨f0'', f1', z', hf'⟩, kp _ _ D.TIz D.TITO D.TIi hTI, TO'.elim (fun ws' x => ⟨ws', x.1, by omega⟩), I'⟩, fun c hcm => ?_⟩
    · obtain ⟨xs', v, hq', hv, hx⟩ := hg m a ea
      rw [seqB_inj I hq hq', hx, hv]
      exact ⟨rfl, rfl⟩
    · have hlt : c < s.heap.objs.size := by
        rcases List.mem_cons.mp hcm with q | hc
        · rw [q]; exact hzl
        rcases List.mem_cons.mp hc with q | hc
        · rw [q]; exact Heap.lt_size hTI
        rcases List.mem_cons.mp hc with q | hc
        · rw [q]; exact Heap.lt_size hTO
        obtain ⟨m, hm, em⟩ := List.mem_iff_getElem.mp hc
        have ei : is[m]? = some c := by rw [List.getElem?_eq_getElem hm, em]
        obtain ⟨o, e1, _⟩ := (hI m c (as[m]'(by omega)) ei (List.getElem?_eq_getElem (by omega))).there
        exact Heap.lt_size e1
      rw [upd_ne (Nat.ne_of_lt hlt)]
      exact (hf c hcm).1
  done := by
    intro X hP hw hK hc i pins s σ H E I hf st hg
    subst hP hw hK
    obtain ⟨⟨f0, f1, hz, hf0⟩, hTI, _, hI⟩ := st
    obtain ⟨a, xs, ea, hq, hx⟩ := hg
    cases is with
    | nil => exact absurd rfl hn
    | cons i0 is =>
      cases as with
      | nil => cases ea
      | cons l0 as =>
        cases ea
        obtain ⟨its, rv, p⟩ := seqB I hq
        have lr := rv.length
        have h1 := hI 0 i0 a rfl rfl
        rw [if_neg (Nat.lt_irrefl 0)] at h1
        exact pyNext_end (I.ok.hd hc) D hz hf0 hTI h1 p (Array.getElem?_eq_none (by simp; omega)) fun h' hk => ⟨rfl, I.turnedL (t' := s.toks) (ch := z :: TI :: TO :: i0 :: is) (fun c o hb q =>
          hk c o (fun q' => hb (by simp [q'])) (fun q' => hb (by simp [q'])) (fun q' => hb (by simp only [List.mem_cons] at q' ⊢; exact .inr (.inr (.inr q')))) q) hf⟩
  self := fun A i s Q E st h => let ⟨⟨_, _, hz, _⟩, _⟩ := st; pyIter_zipN hz h
section
variable {X : Cx} {pins : List (Addr × Obj)} {σ : L2.St} {H1 : Hp} {s2 : Shared}
/-- zip of some lists and tuples: an iterator has come -/
theorem zip_run {tg : Expr} {as : List (Bool × Addr)} {R : It → Hp → Prop} {E : Value → Shared → Prop} (I2 : Inv X pins σ H1 s2) (hn : as ≠ []) (big : as.length ≤ sizeLine) (hl : ∀ l ∈ as, ∃ ys, SqB X.K H1 l ys) (q : R (ItzN X.K as) H1) :
    wpAny (model X.prog X.w) X.A (call (.type "zip") (as.map fun l => .ref l.2)) (fun v s1 => wpAny (model X.prog X.w) X.A (pyIter v) (PIE X pins σ tg R) E s1) E s2 := by
  have isl : ∀ l ∈ as, ∃ xs, SeqB s2.heap l.1 l.2 xs := fun l hl' => by
    obtain ⟨ys, hys⟩ := hl l hl'
    obtain ⟨its, _, p⟩ := seqB I2 hys
    exact ⟨_, p⟩
  refine call_zipN big isl fun h' hsz kp hI hTI hTO hz => pyIter_zipN hz ?_
  have I3 : Inv X pins σ H1 { s2 with heap := h' } := I2.kept (t' := s2.toks) kp
  have lt : ∀ l ∈ as, l.2 < s2.heap.objs.size := fun l hl' => by
    obtain ⟨xs, p⟩ := isl l hl'
    obtain ⟨o, ho⟩ := p.there
    exact Heap.lt_size ho
  refine ⟨_, _, _, _, H1, rfl, I3, turn_zipN (apart0 _ lt) ?_ (its0_len _ _).symm big, ⟨⟨_, _, hz, .inl rfl⟩, hTI, ⟨_, hTO, by rw [List.length_replicate, its0_len]⟩, hI⟩, fun c hc => ?_, q⟩
  · intro z
    have := its0_len s2.heap.objs.size as.length
    rw [z] at this
    exact hn (List.length_eq_zero_iff.mp this.symm)
  · have hle : s2.heap.objs.size ≤ c := by
      rcases List.mem_cons.mp hc with q | hc
      · rw [q]; exact Nat.le_trans (Nat.le_add_right _ _) (Nat.le_add_right _ _)
      rcases List.mem_cons.mp hc with q | hc
      · rw [q]; exact Nat.le_add_right _ _
      rcases List.mem_cons.mp hc with q | hc
      · rw [q]; exact Nat.le_trans (Nat.le_add_right _ _) (Nat.le_add_right _ _)
      exact (its0_mem hc).1
    exact I2.fpOk hle (I2.hok.fresh hle)
end
theorem vals_refs : ∀ {as : List (Bool × Addr)} {us : List Value}, Vals (as.map fun l => V.ref l.2) us → us = as.map fun l => Value.ref l.2
  | [], us, r => by cases r; rfl
  | a :: as, us, r => by
    cases r with
    | cons r1 r2 =>
      cases r1
      rw [vals_refs r2]
      rfl
def iZipN (K : PySem.W.Frag) (te : TE) : TI := fun σ H R => te σ H fun y H1 => ∃ (a : Addr) (xs : List V) (as : List (Bool × Addr)), y = .ref a ∧ SqL K H1 a xs ∧ (xs = as.map fun l => V.ref l.2) ∧ as ≠ [] ∧ as.length ≤ sizeLine ∧ (∀ l ∈ as, ∃ ys, SqB K H1 l ys) ∧ R (ItzN K as) H1
/-- zip( *xs), xs a list of lists, of tuples -/
theorem pi_zipN {X : Cx} {e : Expr} {te : TE} {p sp_ pos : Pos} {tg : Expr} (hg : Gl X "zip") (hm : X.mg "zip" = none) (he : PE X e te) (hst : starEach [.Starred e sp_] X.env = [(true, eval e X.env)] := by rfl) :
    PI X tg (.Call (.Name "zip" p) [.Starred e sp_] [] pos) (iZipN X.K te) := by
  refine ⟨fun pins s σ H R I h => ?_⟩
  refine Call_ (ld_blt I hg hm PyProof.Rows.boot_zip ?_)
  rw [hst]
  refine PySem.W.ks_call rfl (P := fun _ => True) (fun h _ => ?_) (PySem.W.ks_lone (thn (he.run pins s σ H _ I h) fun v s1 ⟨y, H1, I1, ry, a, xs, as, ey, hxs, ex, hn, big, hl, q⟩ => ?_))
  · exact ⟨.machine, .inr (.inl rfl), .now⟩
  subst ey ex
  obtain rfl : v = Value.ref a := ry
  refine StX.star_any I1 (.inr hxs) fun us s2 I2 rv => ⟨trivial, ?_⟩
  obtain rfl := vals_refs rv
  exact zip_run I2 hn big hl q
def iZip2 (K : PySem.W.Frag) (ta : TA) : TI := fun σ H R => ta σ H fun vs H1 => ∃ as : List (Bool × Addr), (vs = as.map fun l => V.ref l.2) ∧ as ≠ [] ∧ as.length ≤ sizeLine ∧ (∀ l ∈ as, ∃ ys, SqB K H1 l ys) ∧ R (ItzN K as) H1
/-- zip(a, b, ..), lists and tuples -/
theorem pi_zip2 {X : Cx} {e : Expr} {es : List Expr} {ta : TA} {p pos : Pos} {tg : Expr} (hg : Gl X "zip") (hm : X.mg "zip" = none) (ha : PA X (e :: es) ta)
    (hs : starEach (e :: es) X.env = (false, eval e X.env) :: starEach es X.env := by rfl) (hpl : (backTo pos (starEach es X.env)).any (·.1) = false := by rfl) :
    PI X tg (.Call (.Name "zip" p) (e :: es) [] pos) (iZip2 X.K ta) := by
  refine ⟨fun pins s σ H R I h => ?_⟩
  refine Call_ (ld_blt I hg hm PyProof.Rows.boot_zip (PyProof.Rows.callWith_type1 (thn (ha.run pos pins s σ H _ I h) fun us s1 ⟨vs, H1, I1, r1, as, ev, hn, big, hl, q⟩ => ?_) hs hpl))
  subst ev
  obtain rfl := vals_refs r1
  exact zip_run I1 hn big hl q
end ZN
set_option maxRecDepth 100000
set_option maxHeartbeats 1000000
/-! dict(zip(a, b)) -/
namespace ZN
open PySem PySem.Spec PyProof.Rows L2
theorem pair_arg {prog : Program} {w : World} {z TI TO i1 i2 : Addr} {l1 l2 : Bool × Addr} (D : Apart z TI TO [i1, i2] [l1, l2]) (n1 : TI ≠ i1) {xs ys : Array Value} {n : Nat} (hx : xs.size = n) (hy : ys.size = n) :
    PairArg prog w "zip" z [z, TI, TO, i1, i2, l1.2, l2.2] [z, TO, i1, i2] n (fun i k v => xs[i]? = some k ∧ ys[i]? = some v)
      (fun h => (∃ f0 f1, IsZipN h z TI TO f0 f1 ∧ F0 f0) ∧ IsTup h TI [.ref i1, .ref i2] ∧ (∃ ws, IsTup h TO ws ∧ ws.length = 2) ∧ Its h [i1, i2] [l1, l2] 0 0 ∧ SeqB h l1.1 l1.2 xs ∧ SeqB h l2.1 l2.2 ys) where
  type := fun s ok => let ⟨⟨_, _, hz, _⟩, _⟩ := ok; ⟨_, hz, rfl⟩
  notDict := by decide
  keep := fun h h' ok hk => by
    obtain ⟨⟨f0, f1, hz, hf⟩, hTI, ⟨ws, hTO, lw⟩, hI, h1, h2⟩ := ok
    exact ⟨⟨f0, f1, hk _ _ hz, hf⟩, hk _ _ hTI, ⟨ws, hk _ _ hTO, lw⟩, its_same hI fun i _ o e => hk _ o e, h1.at fun o e => hk _ o e, h2.at fun o e => hk _ o e⟩
  there := fun h ok b hb => by
    obtain ⟨⟨f0, f1, hz, hf⟩, hTI, ⟨ws, hTO, lw⟩, hI, h1, h2⟩ := ok
    obtain ⟨o1, e1, _⟩ := (hI 0 i1 l1 rfl rfl).there
    obtain ⟨o2, e2, _⟩ := (hI 1 i2 l2 rfl rfl).there
    simp only [List.mem_cons, List.not_mem_nil, or_false] at hb
    rcases hb with rfl | rfl | rfl | rfl | rfl | rfl | rfl
    · exact ⟨_, hz⟩
    · exact ⟨_, hTI⟩
    · exact ⟨_, hTO⟩
    · exact ⟨_, e1⟩
    · exact ⟨_, e2⟩
    · exact h1.there
    · exact h2.there
  sub := fun b hb => by
    simp only [List.mem_cons, List.not_mem_nil, or_false] at hb ⊢
    rcases hb with rfl | rfl | rfl | rfl <;> simp
  noKeys := fun A s Q E hA ok h => let ⟨⟨_, _, hz, _⟩, _⟩ := ok; getAttrOr_miss_zip hz rfl rfl rfl zip_no_keys (by decide +kernel) hA h
  iter := fun A s d Q E hA ok hd hdf go => by
    obtain ⟨⟨f0, f1, hz, hf⟩, hTI, ⟨ws, hTO, lw⟩, hI, h1, h2⟩ := ok
    simp only [List.mem_cons, List.not_mem_nil, or_false, not_or] at hdf
    obtain ⟨dz, dTI, dTO, di1, di2, dl1, dl2⟩ := hdf
    have inI : ∀ {c : Addr}, c ∉ [z, TO, i1, i2] → c ≠ z ∧ c ≠ TO ∧ c ∉ [i1, i2] := fun {c} h => by
      simp only [List.mem_cons, List.not_mem_nil, or_false, not_or] at h ⊢
      exact ⟨h.1, h.2.1, h.2.2⟩
    obtain ⟨l1z, l1TO, l1i⟩ := D.lz l1 (by simp)
    obtain ⟨l2z, l2TO, l2i⟩ := D.lz l2 (by simp)
    refine pyIter_zipN hz (go z [z, TO, i1, i2] (fun i h => (∃ f0 f1, IsZipN h z TI TO f0 f1 ∧ F0 f0) ∧ IsTup h TI [.ref i1, .ref i2] ∧ (∃ ws, IsTup h TO ws ∧ ws.length = 2) ∧ Its h [i1, i2] [l1, l2] i 0 ∧ SeqB h l1.1 l1.2 xs ∧ SeqB h l2.1 l2.2 ys) s.heap s.toks ?_
      ⟨⟨f0, f1, hz, hf⟩, hTI, ⟨ws, hTO, lw⟩, hI, h1, h2⟩ (fun _ _ e => e) fun b hb => .inl hb)
    exact {
      off := by
        simp only [List.mem_cons, List.not_mem_nil, or_false, not_or]
        exact ⟨dz, dTO, di1, di2⟩
      frame := fun i h h' st hk => by
        obtain ⟨⟨f0, f1, hz, hf⟩, hTI, ⟨ws, hTO, lw⟩, hI, h1, h2⟩ := st
        refine ⟨⟨f0, f1, hk _ _ (Ne.symm dz) hz, hf⟩, hk _ _ (Ne.symm dTI) hTI, ⟨ws, hk _ _ (Ne.symm dTO) hTO, lw⟩, its_same hI fun i hi o e => hk _ o (fun q => ?_) e, h1.at fun o e => hk _ o (Ne.symm dl1) e, h2.at fun o e => hk _ o (Ne.symm dl2) e⟩
        subst q
        simp only [List.mem_cons, List.not_mem_nil, or_false] at hi
        exact hi.elim (fun q => di1 q) fun q => di2 q
      item := fun i s₁ Q₁ E₁ hi st hds hQ => by
        obtain ⟨⟨f0, f1, hz, hf⟩, hTI, ⟨ws, hTO, lw⟩, hI, h1, h2⟩ := st
        have ex : xs[i]? = some (xs[i]'(by omega)) := Array.getElem?_eq_getElem (by omega)
        have ey : ys[i]? = some (ys[i]'(by omega)) := Array.getElem?_eq_getElem (by omega)
        generalize xs[i]'(by omega) = x at ex
        generalize ys[i]'(by omega) = y at ey
        have R : Row s₁.heap [l1, l2] i [x, y] := fun m l e => by
          match m, e with
          | 0, e => cases e; exact ⟨xs, x, h1, rfl, ex⟩
          | 1, e => cases e; exact ⟨ys, y, h2, rfl, ey⟩
          | m + 2, e => simp at e
        refine pyNext_item (us := [x, y]) D hz hf hTI hTO lw rfl rfl hI R (by simp) (by show 2 ≤ sizeLine; decide) fun h' f0' f1' z' hf' TO' I' hT kp => ?_
        refine hQ s₁.heap.objs.size x y h' s₁.toks ⟨ex, ey⟩ (.inl ⟨_, hT, rfl, _, rfl⟩) ⟨⟨f0', f1', z', hf'⟩, kp.keep _ _ D.TIz D.TITO D.TIi hTI, TO', I', h1.at fun o e => kp.keep _ o l1z l1TO l1i e, h2.at fun o e => kp.keep _ o l2z l2TO l2i e⟩ fun b o hb e => ?_
        obtain ⟨b1, b2, b3⟩ := inI hb
        exact kp.keep b o b1 b2 b3 e
      done := fun s₁ Q₁ E₁ st hQ => by
        obtain ⟨⟨f0, f1, hz, hf⟩, hTI, ⟨ws, hTO, lw⟩, hI, h1, h2⟩ := st
        have q1 := hI 0 i1 l1 rfl rfl
        rw [if_neg (Nat.lt_irrefl 0)] at q1
        refine pyNext_end hA D hz hf hTI q1 h1 (Array.getElem?_eq_none (by omega)) fun h' hk => hQ h' s₁.toks fun b o hb e => ?_
        obtain ⟨b1, b2, b3⟩ := inI hb
        exact hk b o b1 b2 b3 e }
def tDictZ (K : PySem.W.Frag) (ta : TA) : TE := fun σ H Q => ta σ H fun vs H1 => ∃ (l1 l2 : Bool × Addr) (kvs : List (Key × V)), vs = [.ref l1.2, .ref l2.2] ∧ SqB K H1 l1 (kvs.map fun p => kV p.1) ∧ SqB K H1 l2 (kvs.map fun p => p.2) ∧ kvs.length ≤ sizeLine ∧
  ∀ p, H1 p = none → Q (.ref p) (upd H1 p (.dK (mergeK [] kvs)))
theorem kv_of {P : Program} {w0 : World} {kvs : List (Key × V)} : ∀ {us ws : List Value}, Vals (kvs.map fun p => kV p.1) us → Vals (kvs.map fun p => p.2) ws → ∃ prs : List (Key × Value), KV kvs prs ∧ prs.length = kvs.length ∧ (∀ (i : Nat) (key v : Value), us[i]? = some key → ws[i]? = some v → ∃ k, prs[i]? = some (k, v) ∧ keyIs k key = true) := by
  induction kvs with
  | nil =>
    intro us ws r s
    cases r
    cases s
    exact ⟨[], .nil, rfl, fun i key v e _ => by simp at e⟩
  | cons p kvs ih =>
    intro us ws r s
    cases r with
    | cons r1 r2 =>
      cases s with
      | cons s1 s2 =>
        rename_i u us w ws
        obtain ⟨prs, rel, hl, f⟩ := ih r2 s2
        refine ⟨(p.1, w) :: prs, .cons ⟨rfl, s1⟩ rel, by simp [hl], fun i key v e1 e2 => ?_⟩
        cases i with
        | zero =>
          simp at e1 e2
          subst e1 e2
          exact ⟨p.1, rfl, kV_is (P := P) (w := w0) r1⟩
        | succ i => exact f i key v (by simpa using e1) (by simpa using e2)
/-- dict(zip(a, b)) -/
theorem pe_dictZ {X : Cx} {e1 e2 : Expr} {ta : TA} {p1 p2 pz pd : Pos} (hcalm : X.calm = true) (gz : Gl X "zip") (mz : X.mg "zip" = none) (gd : Gl X "dict") (md : X.mg "dict" = none) (ha : PA X [e1, e2] ta)
    (hs : starEach [e1, e2] X.env = (false, eval e1 X.env) :: starEach [e2] X.env := by rfl) (hpl : (backTo pz (starEach [e2] X.env)).any (·.1) = false := by rfl) :
    PE X (.Call (.Name "dict" p1) [.Call (.Name "zip" p2) [e1, e2] [] pz] [] pd) (tDictZ X.K ta) := by
  refine ⟨fun pins s σ H Q I h => ?_⟩
  refine Call_ (ld_blt I gd md (show bootBuiltins "dict" = some (.type "dict") by rfl) (PyProof.Rows.callWith_type1 ?_ (by rfl) (by rfl)))
  show wpAny _ _ (spliced [(false, eval (.Call (.Name "zip" p2) [e1, e2] [] pz) X.env)]) _ _ s
  refine Calls.spliced_cons (Call_ (ld_blt I gz mz PyProof.Rows.boot_zip (PyProof.Rows.callWith_type1 (thn (ha.run pz pins s σ H _ I h) fun us s1 ⟨vs, H1, I1, r1, l1, l2, kvs, ev, q1, q2, big, q⟩ => ?_) hs hpl)))
  subst ev
  have e := vals_refs (as := [l1, l2]) r1
  subst e
  obtain ⟨us, ru, p1'⟩ := seqB I1 q1
  obtain ⟨ws, rw_, p2'⟩ := seqB I1 q2
  obtain ⟨prs, rel, hl, f⟩ := kv_of (P := X.prog) (w0 := X.w) ru rw_
  have lu := ru.length
  have lw := rw_.length
  rw [List.length_map] at lu lw
  refine call_zipN (ls := [l1, l2]) (by show 2 ≤ sizeLine; decide) (fun l hl' => ?_) fun h' hsz kp hI hTI hTO hz => ?_
  · simp only [List.mem_cons, List.not_mem_nil, or_false] at hl'
    rcases hl' with rfl | rfl
    · exact ⟨_, p1'⟩
    · exact ⟨_, p2'⟩
  have lt : ∀ l ∈ [l1, l2], l.2 < s1.heap.objs.size := fun l hl' => by
    simp only [List.mem_cons, List.not_mem_nil, or_false] at hl'
    rcases hl' with rfl | rfl
    · obtain ⟨o, ho⟩ := p1'.there
      exact Heap.lt_size ho
    · obtain ⟨o, ho⟩ := p2'.there
      exact Heap.lt_size ho
  have I3 : Inv X pins σ H1 { s1 with heap := h' } := I1.kept (t' := s1.toks) kp
  have D : Apart (s1.heap.objs.size + 2 + 2) (s1.heap.objs.size + 2) (s1.heap.objs.size + 2 + 1) [s1.heap.objs.size + 0, s1.heap.objs.size + 1] [l1, l2] := apart0 s1.heap lt
  refine Calls.spliced_nil ?_
  refine PySem.call_dict_pairs (knd := mixKind X.prog X.w) (kvs := prs) (pair_arg (n := kvs.length) D (fun z => D.TIi (by rw [z]; simp)) (xs := us.toArray) (ys := ws.toArray) (by simp [lu]) (by simp [lw])) (I3.ok.hd hcalm)
    ⟨⟨_, _, hz, .inl rfl⟩, hTI, ⟨_, hTO, rfl⟩, hI, p1'.at fun o e => kp _ o e, p2'.at fun o e => kp _ o e⟩ ⟨hl, fun i key v e => ?_⟩ big fun h2 tk hd k => ?_
  · obtain ⟨k, e1, e2⟩ := f i key v (by simpa using e.1) (by simpa using e.2)
    exact ⟨k, e1, e2⟩
  · have hm : (h'.objs.size == sysModules) = false := beq_eq_false_iff_ne.mpr (Nat.ne_of_gt I3.big)
    have hlen : (mergeK [] kvs).length ≤ sizeLine := by
      refine Nat.le_trans (length_mergeK kvs []) ?_
      rw [List.length_nil, Nat.zero_add]
      exact big
    have off : ∀ c, c ∈ [s1.heap.objs.size + 2 + 2, s1.heap.objs.size + 2 + 1, s1.heap.objs.size + 0, s1.heap.objs.size + 1] → FpOk X pins H1 c := fun c hc => by
      have hle : s1.heap.objs.size ≤ c := by
        simp only [List.mem_cons, List.not_mem_nil, or_false] at hc
        rcases hc with q | q | q | q <;> rw [q] <;> first | exact Nat.le_trans (Nat.le_add_right _ _) (Nat.le_add_right _ _) | exact Nat.le_add_right _ _
      exact I1.fpOk hle (I1.hok.fresh hle)
    have I4 := I3.turnedNew (t' := tk) (h' := h2) (ch := [s1.heap.objs.size + 2 + 2, s1.heap.objs.size + 2 + 1, s1.heap.objs.size + 0, s1.heap.objs.size + 1]) (T := h'.objs.size) (ob := .dK (mergeK [] kvs)) k off (Nat.le_refl _) ⟨hlen, hm, _, KV.merge rel .nil, hd⟩
    exact ⟨.ref h'.objs.size, _, I4, rfl, q _ (I3.hok.fresh (Nat.le_refl _))⟩
end ZN
set_option maxRecDepth 100000
set_option maxHeartbeats 4000000
/-! zip( *rows) as trees -/
namespace Tr
open PySem PySem.Spec PyProof.Rows L2 Tm
variable [Cl] [Tt]
section
variable {d : Option Addr} {te : TE} {me : ME}
omit [Cl] [Tt] in
def rowsL : List T → Option (List (List T))
  | [] => some []
  | .lst r :: ts => (rowsL ts).map (r :: ·)
  | .tup r :: ts => (rowsL ts).map (r :: ·)
  | _ :: _ => none
def colsOf (rs : List (List T)) (n : Nat) : List T := (List.range n).map fun i => .tup (rs.filterMap (·[i]?))
def zipRows (rows : List T) (k : List T → Bool) : Bool := match rowsL rows with
  | some (r0 :: rs) => (r0 :: rs).all (fun r => decide (r0.length ≤ r.length)) && decide (rows.length ≤ 16777216) && k (colsOf (r0 :: rs) r0.length)
  | _ => false
def miZipN (m : ME) : MI := fun σ k => m σ fun x => match x with
  | .lst rows => zipRows rows k
  | _ => false
def miZip2 (m : MA) : MI := fun σ k => m σ fun rows => zipRows rows k
def RR (F : Hp) (p : (Bool × Addr) × List V) (r : List T) : Prop := (match p.1.1 with
  | true => F p.1.2 = some (.lst p.2)
  | false => TupAt F p.1.2 p.2) ∧ RTs F p.2 r
theorem rr_sq {F H : Hp} {p : (Bool × Addr) × List V} {r : List T} (w : Wd d F H) (h : RR F p r) : ZN.SqB Cl.K H p.1 p.2 := by
  obtain ⟨⟨b, a⟩, xs⟩ := p
  cases b with
  | true => exact rd_sql w h.1
  | false => exact rd_sqt w h.1
theorem rr_mono {F F' : Hp} (s : Le F F') {p : (Bool × Addr) × List V} {r : List T} (h : RR F p r) : RR F' p r := by
  obtain ⟨⟨b, a⟩, xs⟩ := p
  refine ⟨?_, h.2.mono s⟩
  cases b with
  | true => exact s _ _ h.1
  | false =>
    have h1 : TupAt F a xs := h.1
    exact (h1.imp (fun ⟨ob, z, e⟩ => ⟨ob, z, s _ _ e⟩) id : TupAt F' a xs)
theorem rows_rt {F : Hp} : ∀ {rows : List T} {vs : List V} {rs : List (List T)}, RTs F vs rows → rowsL rows = some rs → ∃ ps : List ((Bool × Addr) × List V), (vs = ps.map fun p => V.ref p.1.2) ∧ Paired (RR F) ps rs
  | [], _, rs, r, e => by
    cases r
    cases e
    exact ⟨[], rfl, .nil⟩
  | t :: ts, _, rs, r, e => by
    cases r with
    | cons r1 r2 =>
      cases t with
      | lst x =>
        unfold rowsL at e
        cases q : rowsL ts with
        | none => rw [q] at e; cases e
        | some rs' =>
          rw [q] at e
          cases e
          cases r1 with
          | lst f r1 =>
            rename_i a xs
            obtain ⟨ps, rfl, pr⟩ := rows_rt r2 q
            exact ⟨((true, a), xs) :: ps, rfl, .cons ⟨f, r1⟩ pr⟩
      | tup x =>
        unfold rowsL at e
        cases q : rowsL ts with
        | none => rw [q] at e; cases e
        | some rs' =>
          rw [q] at e
          cases e
          cases r1 with
          | tup f r1 =>
            rename_i a xs
            obtain ⟨ps, rfl, pr⟩ := rows_rt r2 q
            exact ⟨((false, a), xs) :: ps, rfl, .cons ⟨f, r1⟩ pr⟩
      | _ => cases e
abbrev PS2 := List ((Bool × Addr) × List V)
def YRow (ps : PS2) (n : Nat) : Nat → Hp → V → Hp → Prop := fun i H v H' => i < n ∧ ∃ (Ta : Addr) (ob : Obj), v = .ref Ta ∧ H Ta = none ∧ ob.dict = none ∧ H' = upd H Ta (.frz ob (.tup (ps.map fun p => (p.2[i]?).getD .non)))
theorem walk_zipN {K : PySem.W.Frag} {ps : PS2} {n : Nat} (hn : ps ≠ []) (hl : ∀ p ∈ ps, n ≤ p.2.length) (h0 : ∀ p, ps[0]? = some p → p.2.length = n) : Walk (ZN.ItzN K (ps.map Prod.fst)) n (fun H => ∀ p ∈ ps, ZN.SqB K H p.1 p.2) (YRow ps n) where
  goes := fun i H hi g => by
    refine ⟨ps.map fun p => (p.2[i]?).getD .non, by simp, fun m a e => ?_⟩
    rw [List.getElem?_map] at e
    cases q : ps[m]? with
    | none => rw [q] at e; cases e
    | some p =>
      rw [q] at e
      cases e
      have pm := List.mem_of_getElem? q
      refine ⟨p.2, (p.2[i]?).getD .non, g p pm, by rw [List.getElem?_map, q]; rfl, ?_⟩
      rw [List.getElem?_eq_getElem (Nat.lt_of_lt_of_le hi (hl p pm))]
      rfl
  stops := fun H g => by
    cases ps with
    | nil => exact absurd rfl hn
    | cons p ps => exact ⟨p.1, p.2, rfl, g p (by simp), Nat.le_of_eq (h0 p rfl)⟩
  yields := fun i H x H' hi g y => by
    obtain ⟨Ta, ob, vs, e1, e2, e3, e4, lv, f⟩ := y
    have ev : vs = ps.map fun p => (p.2[i]?).getD .non := by
      refine List.ext_getElem? fun m => ?_
      rw [List.getElem?_map]
      cases q : ps[m]? with
      | none =>
        have := List.getElem?_eq_none_iff.mp q
        exact List.getElem?_eq_none (by rw [lv, List.length_map]; exact this)
      | some p =>
        obtain ⟨h1, h2⟩ := f m p.1 p.2 (by rw [List.getElem?_map, q]; rfl) (g p (List.mem_of_getElem? q))
        rw [← h1]
        have lt : i < p.2.length := Nat.lt_of_lt_of_le hi (hl p (List.mem_of_getElem? q))
        rw [List.getElem?_eq_getElem lt]
        simp [List.getElem?_eq_getElem lt]
    subst ev
    exact ⟨hi, Ta, ob, e1, e2, e3, e4⟩
theorem col_rt {F : Hp} {i : Nat} : ∀ {ps : PS2} {rs : List (List T)}, Paired (RR F) ps rs → (∀ p ∈ ps, i < p.2.length) → RTs F (ps.map fun p => (p.2[i]?).getD .non) (rs.filterMap (·[i]?))
  | [], _, h, _ => by cases h; exact .nil
  | p :: ps, _, h, hl => by
    cases h with
    | cons a b =>
      rename_i r rs
      have lt : i < p.2.length := hl p (by simp)
      obtain ⟨t, e, rt⟩ := RTs.at' a.2 (List.getElem?_eq_getElem lt)
      rw [List.filterMap_cons, e, List.map_cons, List.getElem?_eq_getElem lt]
      exact .cons rt (col_rt b fun q hq => hl q (by simp [hq]))
theorem pr_mem {α β : Type} {R : α → β → Prop} : ∀ {xs : List α} {ys : List β}, Paired R xs ys → ∀ x ∈ xs, ∃ y ∈ ys, R x y
  | [], _, _, x, h => by cases h
  | a :: xs, _, .cons r p, x, h => by
    rcases List.mem_cons.mp h with e | h
    · subst e
      exact ⟨_, by simp, r⟩
    · obtain ⟨y, hy, q⟩ := pr_mem p x h
      exact ⟨y, by simp [hy], q⟩
theorem zip_rows {rows : List T} {vs : List V} {F1 H1 : Hp} {k : List T → Bool} (wd1 : Wd d F1 H1) (r1 : RTs F1 vs rows) (h1 : zipRows rows k = true) :
    ∃ as : List (Bool × Addr), (vs = as.map fun l => V.ref l.2) ∧ as ≠ [] ∧ as.length ≤ sizeLine ∧ (∀ l ∈ as, ∃ ys, ZN.SqB Cl.K H1 l ys) ∧ ∃ ts, WT d F1 H1 (ZN.ItzN Cl.K as) ts ∧ k ts = true := by
  unfold zipRows at h1
  split at h1
  · rename_i r0 rs er
    rw [Bool.and_eq_true, Bool.and_eq_true, decide_eq_true_eq] at h1
    obtain ⟨⟨ha, hb⟩, hk2⟩ := h1
    have ha' : ∀ r ∈ r0 :: rs, r0.length ≤ r.length := fun r hr => of_decide_eq_true (List.all_eq_true.mp ha r hr)
    obtain ⟨ps, rfl, pr⟩ := rows_rt r1 er
    have hlen : ∀ p ∈ ps, r0.length ≤ p.2.length := fun p hp => by
      obtain ⟨r, hr, rr⟩ := pr_mem pr p hp
      rw [rr.2.len]
      exact ha' r hr
    have hh : ∀ p, ps[0]? = some p → p.2.length = r0.length := fun p hp => by
      cases pr with
      | cons a b =>
        cases hp
        exact a.2.len
    have hn : ps ≠ [] := fun z => by subst z; cases pr
    have ll := r1.len
    refine ⟨ps.map Prod.fst, by rw [List.map_map]; rfl, fun z => hn (List.map_eq_nil_iff.mp z), by rw [List.length_map, sizeLine_eq]; rw [List.length_map] at ll; omega, fun l hl => ?_, _, ⟨_, _, by
        show Walk _ (colsOf (r0 :: rs) r0.length).length _ _
        unfold colsOf
        rw [List.length_map, List.length_range]
        exact walk_zipN hn hlen hh, fun F H c p hp => ?_, fun i F H x H' c y => ?_⟩, hk2⟩
    · obtain ⟨p, hp, rfl⟩ := List.mem_map.mp hl
      obtain ⟨r, hr, rr⟩ := pr_mem pr p hp
      exact ⟨_, rr_sq wd1 rr⟩
    · obtain ⟨r, hr, rr⟩ := pr_mem pr p hp
      exact rr_sq c.wd (rr_mono c.le rr)
    · obtain ⟨hi, Ta, ob, rfl, hT, hob, rfl⟩ := y
      have rt : RTs F (ps.map fun p => (p.2[i]?).getD .non) ((r0 :: rs).filterMap (·[i]?)) := (col_rt pr fun p hp => Nat.lt_of_lt_of_le hi (hlen p hp)).mono c.le
      have u := up_lay (o := .frz ob (.tup (ps.map fun p => (p.2[i]?).getD .non))) c.wd hT
      refine ⟨_, .tup ((r0 :: rs).filterMap (·[i]?)), ?_, u, .tup (.inl ⟨ob, hob, upd_same⟩) (rt.mono u.f)⟩
      unfold colsOf
      rw [List.getElem?_map, List.getElem?_range hi]
      rfl
  · cases h1
theorem i_zipN (h : SE d te me) : SI d none (ZN.iZipN Cl.K te) (miZipN me) := by
  intro F H σ σ' st _ k hk R q
  refine h F H σ σ' st _ hk _ fun v x F1 H1 u1 r1 h1 => ?_
  split at h1
  · cases r1 with
    | lst f r1 =>
      obtain ⟨as, e1, e2, e3, e4, ts, wt, hk2⟩ := zip_rows u1.wd r1 h1
      exact ⟨_, _, as, rfl, rd_sql u1.wd f, e1, e2, e3, e4, q _ ts F1 H1 u1 wt hk2⟩
  · cases h1
theorem i_zip2 {ta : TA} {ma : MA} (h : SA d ta ma) : SI d none (ZN.iZip2 Cl.K ta) (miZip2 ma) := by
  intro F H σ σ' st _ k hk R q
  refine h F H σ σ' st _ hk _ fun vs xs F1 H1 u1 r1 h1 => ?_
  obtain ⟨as, e1, e2, e3, e4, ts, wt, hk2⟩ := zip_rows u1.wd r1 h1
  exact ⟨as, e1, e2, e3, e4, q _ ts F1 H1 u1 wt hk2⟩
end
end Tr
set_option maxRecDepth 100000
set_option maxHeartbeats 4000000
/-! dict(zip(a, b)) as trees -/
namespace Tr
open PySem PySem.Spec PyProof.Rows L2 Tm
variable [Cl] [Tt]
section
variable {d : Option Addr}
omit [Cl] [Tt] in
def keysL : List T → Option (List Key)
  | [] => some []
  | t :: ts => match keyT t, keysL ts with
    | some k, some ks => some (k :: ks)
    | _, _ => none
theorem keysL_rt {F : Hp} : ∀ {ts : List T} {vs : List V} {ks : List Key}, RTs F vs ts → keysL ts = some ks → vs = ks.map kV
  | [], _, _, r, e => by
    cases r
    cases e
    rfl
  | t :: ts, _, ks, r, e => by
    cases r with
    | cons r1 r2 =>
      unfold keysL at e
      split at e
      · rename_i k ks' e1 e2
        cases e
        rw [keyT_rt r1 e1, keysL_rt r2 e2]
        rfl
      · cases e
theorem zip_rtd {F : Hp} : ∀ {ks : List Key} {vs : List V} {ts : List T}, RTs F vs ts → RTd F (ks.zip vs) (ks.zip ts)
  | [], _, _, _ => .nil
  | _ :: _, _, _, .nil => .nil
  | _ :: _, _, _, .cons a b => .cons a (zip_rtd b)
def mDictZ (m : MA) : ME := fun σ k => m σ fun xs => match xs with
  | [x, y] => match rowsL [x], rowsL [y] with
    | some [ks], some [vs] => match keysL ks with
      | some kk => decide (ks.length = vs.length) && (decide (ks.length ≤ 16777216) && k (.dic (mergeT [] (kk.zip vs))))
      | none => false
    | _, _ => false
  | _ => false
theorem row1 {F H : Hp} {v : V} {x : T} {ks : List T} (w : Wd d F H) (r : RT F v x) (e : rowsL [x] = some [ks]) : ∃ (l : Bool × Addr) (vs : List V), v = .ref l.2 ∧ ZN.SqB Cl.K H l vs ∧ RTs F vs ks := by
  obtain ⟨ps, e1, pr⟩ := rows_rt (.cons r .nil) e
  cases pr with
  | cons a b =>
    cases b
    rename_i p
    have e1 : [v] = [V.ref p.1.2] := e1
    cases e1
    exact ⟨p.1, p.2, rfl, rr_sq w a, a.2⟩
theorem o_dictZ {t : TA} {m : MA} (h : SA d t m) : SO d (ZN.tDictZ Cl.K t) (mDictZ m) := by
  intro F H σ σ' st k hk Q q
  refine h F H σ σ' st _ hk _ fun vs xs F1 H1 u1 r1 h1 => ?_
  split at h1
  · rename_i x y
    split at h1
    · rename_i ks vs' ex ey
      split at h1
      · rename_i kk ek
        rw [Bool.and_eq_true, Bool.and_eq_true, decide_eq_true_eq, decide_eq_true_eq] at h1
        obtain ⟨h2, h3, hk2⟩ := h1
        obtain ⟨v, w, rfl, rv, rw_⟩ := rts2 r1
        obtain ⟨l1, us, rfl, q1, ru⟩ := row1 u1.wd rv ex
        obtain ⟨l2, ws, rfl, q2, rws⟩ := row1 u1.wd rw_ ey
        have lk := ru.len
        have lw := rws.len
        obtain rfl := keysL_rt ru ek
        rw [List.length_map] at lk
        have z1 : ((kk.zip ws).map fun p => kV p.1) = kk.map kV := by
          have e : ((kk.zip ws).map fun p => kV p.1) = ((kk.zip ws).map Prod.fst).map kV := by
            rw [List.map_map]
            rfl
          rw [e, List.map_fst_zip (by omega)]
        have z2 : ((kk.zip ws).map fun p => p.2) = ws := List.map_snd_zip (by omega)
        refine ⟨l1, l2, kk.zip ws, rfl, by rw [z1]; exact q1, by rw [z2]; exact q2, by rw [List.length_zip, sizeLine_eq]; omega, fun p hp => ?_⟩
        exact q p _ F1 _ (u1.trans (up_new u1.wd hp) st.wd) (none_back u1 st.wd hp) (f_none u1.wd hp) (show OwnAt F1 (upd H1 p _) p (.dic _) from ⟨_, upd_same, mergeT_rt .nil (zip_rtd rws)⟩) hk2
      · cases h1
    · cases h1
  · cases h1
end
end Tr
set_option maxRecDepth 100000
set_option maxHeartbeats 2000000
/-! A lambda of one name, handed to a built-in as key: its making, its entry. -/
namespace LM
open PySem PySem.Spec PyProof.Rows L2 LamX
/-- all but the tables stay, and what is there stays there -/
structure Ex3 (H H' : Hp) : Prop where
  keep : ∀ b o, (∀ ps, o ≠ .tbl ps) → H b = some o → H' b = some o
  there : ∀ b, H b ≠ none → H' b ≠ none
theorem Ex3.refl (H : Hp) : Ex3 H H := ⟨fun _ _ _ e => e, fun _ e => e⟩
section
variable {X : Cx} {pins : List (Addr × Obj)} {σ : L2.St} {H : Hp} {s : Shared}
theorem off_frames (I : Inv X pins σ H s) {b : Addr} (hb : s.heap.objs.size ≤ b) : b ∉ frs X.stack := by
  intro m
  have c := I.stkSub _ m
  cases c with
  | head => exact Nat.not_lt.mpr hb I.lt
  | tail _ q => exact I.nofs hb q
abbrev lamQ (X : Cx) : Str := X.env.qual ++ "<lambda>"
abbrev lamO (X : Cx) (params : Arguments) (body : Expr) (scope : Scope) (pm : Value) (c' : Addr) (ctv : Value) : Obj := PySem.W.kla_obj "<lambda>" (lamQ X) params body scope (cloFrom X.env.cells scope.names []) pm c' ctv
/-- the lambda is made -/
theorem make {T : List (Addr × Str)} {c P : Addr} {params : Arguments} {body : Expr} {scope : Scope} {pos : Pos} {E Q : Value → Shared → Prop} (I : Inv X pins σ H s) (tabB : TabB X.base X.mg c P) (hcode : X.env.code = .ref c) (memT : (P, lamQ X) ∈ T) (oneT : ∀ p ∈ T, p.1 = P → p.2 = lamQ X) (hT : Tabs T H)
    (hdef : defaultsOf params X.env = ([], [])) (hfree : ∀ y ∈ scope.names, y.2 = .free → ∃ c, X.env.cells.lookup y.1 = some c)
    (go : ∀ (f c' : Addr) (pm ctv : Value) (H1 : Hp) (s' : Shared), Inv X pins σ H1 s' → Ex3 H H1 → Tabs T H1 → s'.heap.get? f = some (lamO X params body scope pm c' ctv) → H1 f = none → f ∉ frs X.stack → H1 c' = some (CodeO c' (lamQ X)) → Q (.ref f) s') :
    wpAny (model X.prog X.w) X.A (eval (.Lambda params body scope pos) X.env) Q E s := by
  obtain ⟨ps, atP, trip, told⟩ := hT _ memT
  have blt : s.heap.BuiltinsAt X.mg P := tabB.bm.keeps I.bk
  have objP : s.heap.get? P = some { cls := .none, data := .fields ps } := I.hok _ _ atP
  refine PySem.W.kla_eval hdef ?_
  rcases found : codeAmong pos ps.toList with _ | cv
  · refine PySem.W.kla_makeFunction (mg := X.mg) (c := c) (P := P) (ps := ps) (closure_ok hfree) I.ok.glob (I.mod.glob.keeps I.bk) hcode (tabB.code.keeps I.bk) objP trip found tabB.gP blt fun c' ctv h' tk ext ge lt rec_ tab => ?_
    obtain ⟨c2, oc, vs, t, ec, goc, dat, nm⟩ := rec_
    cases ec
    have sz : s.heap.objs.size ≤ h'.objs.size := Nat.le_trans ge (Nat.le_of_lt lt)
    have newC : H c' = none := I.hok.fresh ge
    have row : (ps ++ #[rawInt pos.line, rawInt pos.col, Value.ref c']).toList = ps.toList ++ [rawInt pos.line, rawInt pos.col, .ref c'] := by simp
    let H1 : Hp := upd (upd H P (.tbl (ps ++ #[rawInt pos.line, rawInt pos.col, .ref c']))) c' (CodeO c' (lamQ X))
    have I1 := inv_table (t' := tk) (more := #[rawInt pos.line, rawInt pos.col, .ref c']) (h' := h'.push (lamO X params body scope ((X.mg "__name__").getD .none) c' ctv)) I atP (fun b o nb e => Heap.get?_push_of_some _ (ext b o nb e)) (Heap.get?_push_of_some _ tab) ge ⟨oc, vs, t, Heap.get?_push_of_some _ goc, dat, nm⟩
    have ex : Ex3 H H1 := by
      refine ⟨fun b o nt e => ?_, fun b e => ?_⟩
      · have n1 : b ≠ c' := ne_of_none e newC
        have n2 : b ≠ P := fun z => by
          subst z
          rw [atP] at e
          exact nt ps (Option.some.inj e).symm
        show upd _ _ _ b = _
        rw [upd_ne n1, upd_ne n2, e]
      · show upd _ _ _ b ≠ none
        by_cases q1 : b = c'
        · rw [q1, upd_same]
          exact fun z => nomatch z
        · rw [upd_ne q1]
          by_cases q2 : b = P
          · rw [q2, upd_same]
            exact fun z => nomatch z
          · rw [upd_ne q2]
            exact e
    have coNt : ∀ (a : Addr) (q : Str) ps, CodeO a q ≠ .tbl ps := fun a q ps z => by
      unfold CodeO at z
      cases z
    refine go h'.objs.size c' ((X.mg "__name__").getD .none) ctv H1 _ I1 ex (fun p hp => ?_) (Heap.get?_push_size _ rfl) ?_ (off_frames I sz) upd_same
    · by_cases q : p.1 = P
      · rw [oneT p hp q, q]
        refine ⟨ps ++ #[rawInt pos.line, rawInt pos.col, .ref c'], ?_, by rw [row]; exact PySem.TriplesOk_snoc _ _ _ _ trip, fun pos' cv e => ?_⟩
        · show upd _ _ _ P = _
          rw [upd_ne (ne_of_none atP newC), upd_same]
        · rw [row] at e
          cases among_app _ trip e with
          | inl z =>
            obtain ⟨a, ea, ha⟩ := told pos' cv z
            exact ⟨a, ea, ex.keep _ _ (coNt _ _) ha⟩
          | inr z => exact ⟨c', z, upd_same⟩
      · obtain ⟨qs, b1, b2, b3⟩ := hT p hp
        refine ⟨qs, ?_, b2, fun pos' cv e => ?_⟩
        · show upd _ _ _ p.1 = _
          rw [upd_ne (ne_of_none b1 newC), upd_ne q, b1]
        · obtain ⟨a, ea, ha⟩ := b3 pos' cv e
          exact ⟨a, ea, ex.keep _ _ (coNt _ _) ha⟩
    · have m1 : h'.objs.size ≠ c' := Nat.ne_of_gt lt
      have m2 : h'.objs.size ≠ P := fun z => Nat.lt_irrefl P (by
        have q := Heap.lt_size objP
        rw [← z] at q ⊢
        exact Nat.lt_of_lt_of_le q sz)
      show upd _ _ _ _ = none
      rw [upd_ne m1, upd_ne m2]
      exact I.hok.fresh sz
  · obtain ⟨c', rfl, co⟩ := told pos cv found
    refine PySem.W.kla_makeFunctionHit (mg := X.mg) (c := c) (P := P) (ps := ps) (closure_ok hfree) I.ok.glob (I.mod.glob.keeps I.bk) hcode (tabB.code.keeps I.bk) objP trip found blt fun ctv h' tk ext sz => ?_
    exact go h'.objs.size c' ((X.mg "__name__").getD .none) ctv H _ (I.kept fun b o e => Heap.get?_push_of_some _ (ext b o e)) (Ex3.refl H) hT (Heap.get?_push_size _ rfl) (I.hok.fresh sz) (off_frames I sz) co
end
/-- one name of its own, else captured ones and globals -/
structure Lam1 (sc scope : Scope) (x : Str) : Prop where
  kind : scope.kind = .function
  co : scope.isCoroutine = false
  gen : scope.isGenerator = false
  par : scope.names.lookup x = some .local
  own : ∀ y ∈ scope.names, y.2 ≠ .cell ∧ (y.2 = .local → y.1 = x)
  free : ∀ y ∈ scope.names, y.2 = .free → sc.names.lookup y.1 = some .cell ∨ sc.names.lookup y.1 = some .free
def lam1B (sc scope : Scope) (x : Str) : Bool :=
  decide (scope.kind = .function) && (!scope.isCoroutine && (!scope.isGenerator && (decide (scope.names.lookup x = some .local) && scope.names.all fun y =>
    decide (y.2 ≠ .cell) && (decide (y.2 = .local → y.1 = x) && decide (y.2 = .free → sc.names.lookup y.1 = some .cell ∨ sc.names.lookup y.1 = some .free)))))
theorem lam1_by {sc scope : Scope} {x : Str} (h : lam1B sc scope x = true) : Lam1 sc scope x := by
  unfold lam1B at h
  simp only [Bool.and_eq_true, Bool.not_eq_true', decide_eq_true_eq, List.all_eq_true] at h
  obtain ⟨h1, h2, h3, h4, h5⟩ := h
  exact ⟨h1, h2, h3, h4, fun y hy => ⟨(h5 y hy).1, (h5 y hy).2.1⟩, fun y hy => (h5 y hy).2.2⟩
theorem Lam1.has {X : Cx} {scope : Scope} {x : Str} (L : Lam1 X.env.scope scope x) (ok : X.Ok) : ∀ y ∈ scope.names, y.2 = .free → ∃ c, X.env.cells.lookup y.1 = some c := fun y hy e => ok.has _ (L.free y hy e)
section
variable {X : Cx} {pins : List (Addr × Obj)} {σ : L2.St} {H HZ : Hp} {s s1 : Shared}
theorem nodup_at {N : List Str} (nd : N.Nodup) {i j : Nat} {x : Str} (a : N[i]? = some x) (b : N[j]? = some x) : i = j := by
  obtain ⟨h1, e1⟩ := List.getElem?_eq_some_iff.mp a
  obtain ⟨h2, e2⟩ := List.getElem?_eq_some_iff.mp b
  exact (List.getElem_inj nd).mp (e1.trans e2.symm)
/-- entered: the name stands in slot j -/
theorem start {A : Around} {outer : List Env} {E : XK} {scope : Scope} {f c' : Addr} {h₁ : Heap} {tk j : Nat} {x : Str} {v : V} {u : Value} (I : Inv X pins σ H s) (nd : X.N.Nodup) (hj : X.N[j]? = some x) (L : Lam1 X.env.scope scope x) (e0 : Env0 X.prog X.w X.K X.mg X.base A outer s1 HZ) (hd : A.handled = none)
    (un : Un (frs X.stack) [] H HZ s.heap s1.heap) (rv : RelV v u) (hns : h₁.Ns s1.heap.objs.size fun y => ([(x, u)] : List (Str × Value)).reverse.lookup y) (kp : ∀ b o, s1.heap.get? b = some o → h₁.get? b = some o) :
    Inv (lamCx X A outer s1 HZ E scope f c') [] (σ.set j (some v)) HZ { s1 with heap := h₁, toks := tk } := by
  have capt := L.has I.ok
  have back : ∀ {y c}, (cloFrom X.env.cells scope.names []).lookup y = some c → X.env.cells.lookup y = some c := fun {y c} e => by
    cases cloFrom_mem (PySem.mem_of_lookup e) with
    | inl m => cases m
    | inr m =>
      obtain ⟨d, hd⟩ := capt _ m.1 rfl
      have hd : X.env.cells.lookup y = some d := hd
      rw [m.2, hd]
      rfl
  have fore : ∀ {y}, scope.names.lookup y = some .free → ∃ c, (cloFrom X.env.cells scope.names []).lookup y = some c := fun {y} e => mem_lookup (cloFrom_has (cells := X.env.cells) (acc := []) (PySem.mem_of_lookup e))
  have isC : ∀ {c : Addr} {w : Option Value}, H c = none → s.heap.IsCell c w → h₁.IsCell c w := fun {c w} n z => by
    obtain ⟨o, ho, hdat⟩ := z
    obtain ⟨sl, q⟩ := un.any ho n (by simp)
    exact ⟨_, kp _ _ q, hdat⟩
  refine ⟨⟨e0.mod, L.kind, rfl, rfl, Nat.le_refl _, fun y z c a b => I.ok.inj y z c (back a) (back b), fun y hy => ?_, fun y c z _ => absurd z (by show ¬ (false = true); decide), fun _ => hd, Around.frames_deeper e0.frames, .inr ⟨rfl, rfl⟩, (fun b z => nomatch z), e0.bs, e0.bsz, (fun b _ _ z => nomatch z), (fun b z => nomatch z), e0.funs, e0.frf⟩,
    rfl, e0.bare, Un.kept kp, ⟨_, hns, fun i y w a b vis => ?_⟩, fun y c e => ?_, e0.hok.fresh (Nat.le_refl _), fun y c e => ?_, (fun q hq => nomatch hq), e0.hok.kept kp, (List.length_set ..).trans I.len⟩
  · have hy2 : scope.names.lookup y = some .cell ∨ scope.names.lookup y = some .free := hy
    cases hy2 with
    | inl e => exact absurd rfl (L.own _ (PySem.mem_of_lookup e)).1
    | inr e => exact fore e
  · have vis2 : Vis scope y := vis
    have a2 : X.N[i]? = some y := a
    rcases vis2 with k | k | k
    · have ey : y = x := (L.own _ (PySem.mem_of_lookup k)).2 rfl
      subst ey
      obtain rfl := nodup_at nd hj a2
      have lt : j < σ.length := by
        rw [I.len]
        exact (List.getElem?_eq_some_iff.mp hj).1
      rw [List.getElem?_set_self lt] at b
      cases b
      exact ⟨u, rv, .inl ⟨k, by simp⟩⟩
    · exact absurd rfl (L.own _ (PySem.mem_of_lookup k)).1
    · have ne : j ≠ i := fun q => by
        subst q
        rw [hj] at a2
        cases a2
        rw [L.par] at k
        cases k
      rw [List.getElem?_set_ne ne] at b
      obtain ⟨m, hm, look⟩ := I.loc
      have visX : Vis X.env.scope y := .inr (L.free _ (PySem.mem_of_lookup k) rfl)
      obtain ⟨w', rw', q⟩ := look i y w a2 b visX
      obtain ⟨c2, e2⟩ := fore k
      refine ⟨w', rw', .inr ⟨.inr k, c2, e2, ?_⟩⟩
      have e1 := back e2
      rcases q with ⟨loc, _⟩ | ⟨_, c3, e3, z⟩
      · have loc2 : X.env.scope.names.lookup y = some .local := loc
        rcases L.free _ (PySem.mem_of_lookup k) rfl with z | z
        · rw [show X.env.scope.names.lookup y = _ from z] at loc2
          cases loc2
        · rw [show X.env.scope.names.lookup y = _ from z] at loc2
          cases loc2
      · rw [e1] at e3
        cases e3
        exact isC (I.freeC y _ e1) z
  · obtain ⟨w', z⟩ := I.cell y c (back e)
    exact ⟨w', isC (I.freeC y c (back e)) z⟩
  · obtain ⟨w, o, ho, hdat⟩ := I.cell y c (back e)
    exact un.free c o ho (I.freeC y c (back e)) (by simp)
end
end LM
set_option maxRecDepth 100000
set_option maxHeartbeats 2000000
namespace LM
open PySem PySem.Spec PyProof.Rows L2 LamX
def NoX : XK := fun _ _ _ => False
section
variable {X : Cx} {pins : List (Addr × Obj)} {σ : L2.St} {H : Hp} {s : Shared}
/-- what the lambda's text gives, wherever it is entered -/
def BodyOk (X : Cx) (scope : Scope) (body : Expr) (k : Nat) (tb : TE) : Prop :=
  ∀ (A : Around) (outer : List Env) (s : Shared) (H : Hp) (f c' : Addr), Room k (A.deeper (lamEnv X scope s.heap.objs.size f c')) → PE (lamCx X A outer s H NoX scope f c') body tb
theorem enter {params : Arguments} {body : Expr} {scope : Scope} {f c' : Addr} {pm ctv : Value} {x : Str} {j k : Nat} {v : V} {u : Value} {tb : TE} {Q' : VK} {Q E : Value → Shared → Prop} (I : Inv X pins σ H s) (nd : X.N.Nodup) (hj : X.N[j]? = some x) (L : Lam1 X.env.scope scope x) (hr : Room (k + 2) X.A)
    (at_ : s.heap.get? f = some (lamO X params body scope pm c' ctv)) (co : H c' = some (CodeO c' (lamQ X))) (bind : ∀ (q : Str) (cl : List (Str × Addr)) (pm cv ctv u : Value), bindArgs (PySem.W.kla_fn "<lambda>" q params body scope cl pm cv ctv) ⟨[u], []⟩ = pure [(x, u)])
    (rv : RelV v u) (hb : BodyOk X scope body k tb) (h : tb (σ.set j (some v)) H Q') (go : ∀ u' s', CE X.stack X.prog X.w H s Q' u' s' → Q u' s') :
    wpAny (model X.prog X.w) X.A.in1 (call (.ref f) [u]) Q E s := by
  have hr1 : Room (k + 1) X.A.in1 := hr.in1
  obtain ⟨⟨oc, vs, t, hoc, hdc, hvc⟩, _, _⟩ := I.hok c' _ co
  have rc : codeAny (model X.prog X.w) X.A.in1 (.call (.ref f) ⟨[u], []⟩) (CR (L2.CX X.prog X.w) X.stack X.prog X.w H s Q' NoX) s := by
    refine PySem.W.kla_callFunE hr1.depth at_ rfl L.co L.gen rfl ⟨c', oc, vs, t, rfl, hoc, hdc, hvc⟩ ?_
    rw [bind]
    refine wpAny_pure (wpAny_newFunctionEnv (fun y hy => (L.own y hy).1) (fun y hy => ?_) (fun h₁ hns hsb => ⟨I.nolimit.fresh _ hsb, ?_⟩) L.kind)
    · obtain rfl : y = (x, u) := by simpa using hy
      exact L.par
    show codeAny _ _ (.expr body (lamEnv X scope s.heap.objs.size f c')) _ _
    have kp : ∀ b o, s.heap.get? b = some o → h₁.get? b = some o := fun b o e => hsb.extBut b o (Nat.ne_of_lt (Heap.lt_size e)) (Heap.get?_push_of_some _ e)
    have J : Inv (lamCx X X.A.in1 X.stack s H NoX scope f c') [] (σ.set j (some v)) H { s with heap := h₁, toks := s.toks + ([(x, u)] : List (Str × Value)).length } :=
      start I nd hj L I.env0.in1 hr1.hd Un.refl rv hns kp
    refine PySem.W.kla_codeExpr (wpAny_mono ((hb _ _ s H f c' (hr1.deeper _)).run [] _ _ H Q' J h) (fun w s' hq => ?_) fun e s' hq => hq)
    obtain ⟨w', H', J', r', q⟩ := hq
    exact ⟨w', H', J'.os, J'.bare, J'.base, J'.hok, r', q⟩
  refine wpAny_call (codeAny_mono rc fun r s' hq => ?_)
  cases r with
  | error e =>
    obtain ⟨_, _, _, _, _, _, _, _, _, _, _, _, z⟩ := show L2.CX X.prog X.w X.stack H s NoX e s' from hq
    exact False.elim z
  | ok fl =>
    cases fl with
    | ret u' => exact go u' s' hq
    | next => exact False.elim hq
    | brk => exact False.elim hq
    | cont => exact False.elim hq
end
end LM
set_option maxRecDepth 100000
set_option maxHeartbeats 2000000
namespace LM
open PySem PySem.Spec PyProof.Rows L2 LamX
section
variable {prog : Program} {w : World} {A : Around}
/-- a list that is walked: the same things, perhaps other words for them -/
theorem walks {l it : Addr} {xs : List V} (hh : A.handled = none) (ne : l ≠ it) : WalksS prog w A it [it, l] [it] (fun a b => b = a) xs.length (fun i v => ∃ x, xs[i]? = some x ∧ RelV x v)
    (fun i s => s.heap.IsListIter it l i ∧ ∃ its : List Value, Vals xs its ∧ s.heap.IsList l its.toArray) where
  sub := fun b hb => by
    obtain rfl : b = it := by simpa using hb
    simp
  grefl := fun _ => rfl
  gtrans := fun _ _ _ h1 h2 => h2.trans h1
  frame := fun i s h' tk st _ hk => ⟨st.1.at fun o e => hk it (by simp) o e, let ⟨its, r, q⟩ := st.2; ⟨its, r, q.at fun o e => hk l (by simp) o e⟩⟩
  item := fun i s Q E hi st hQ => by
    obtain ⟨h1, its, r, q⟩ := st
    obtain ⟨u, hu, ru⟩ := r.get (List.getElem?_eq_getElem hi)
    refine wpAny_pyNext_list_item h1 q (by simpa using hu) fun h' h2 hs => ?_
    exact hQ u _ ⟨_, List.getElem?_eq_getElem hi, ru⟩ ⟨h2, its, r, q.extBut hs.extBut ne⟩ ⟨fun b o hb e => hs.extBut b o (by simpa using hb) e, rfl, rfl, rfl, Nat.le_refl _⟩
  done := fun s Q E st hQ => by
    obtain ⟨h1, its, r, q⟩ := st
    have e := r.length
    refine wpAny_pyNext_list_end hh h1 q (Array.getElem?_eq_none (by simp; omega)) fun h' hk => ?_
    exact hQ _ ⟨fun b o hb e => hk b o (by simpa using hb) e, rfl, rfl, rfl, Nat.le_refl _⟩
  self := fun i s Q E st hQ => wpAny_pyIter_listiter st.1 hQ
end
def ltK (ks : List Int) (i j : Nat) : Bool := decide (ks.getD i 0 < ks.getD j 0)
def gtK (ks : List Int) (i j : Nat) : Bool := decide (ks.getD i 0 > ks.getD j 0)
/-- what is held between two keys -/
structure Held (X : Cx) (pins : List (Addr × Obj)) (σ : L2.St) (G : Hp → Prop) (f S it : Addr) (o : Obj) (s : Shared) (H : Hp) : Prop where
  I : Inv X pins σ H s
  g : G H
  ob : s.heap.get? f = some o
  fn : H f = none
  fS : FpOk X pins H S
  fI : FpOk X pins H it
section
variable {X : Cx} {pins : List (Addr × Obj)} {σ : L2.St} {H : Hp} {s s' : Shared} {G : Hp → Prop} {f S it : Addr} {o : Obj}
theorem Held.moved (h : Held X pins σ G f S it o s H) (nS : f ≠ S) (nI : f ≠ it) (m : Moved (S :: [it]) (fun a b => b = a) s s') : Held X pins σ G f S it o s' H := by
  have I1 := h.I.turnedL (t' := s'.toks) (ch := [S, it]) (h' := s'.heap) (fun b o hb e => m.heap b o (by simpa using hb) e) fun b hb => by
    rcases List.mem_cons.mp hb with e | e
    · rw [e]; exact h.fS
    · rw [List.mem_singleton.mp e]; exact h.fI
  have e : ({ s with heap := s'.heap, toks := s'.toks } : Shared) = s' := by
    have g := m.gens
    have d := m.drawn
    have q := m.os
    obtain ⟨a1, a2, a3, a4, a5⟩ := s
    obtain ⟨b1, b2, b3, b4, b5⟩ := s'
    dsimp only at g d q ⊢
    subst g d q
    rfl
  rw [e] at I1
  exact ⟨I1, h.g, m.heap _ _ (by simp [nS, nI]) h.ob, h.fn, h.fS, h.fI⟩
/-- the keys, one by one -/
theorem keyRun {op : CmpOp} {bt : Nat → Nat → Bool} {params : Arguments} {body : Expr} {scope : Scope} {c' a : Addr} {pm ctv : Value} {x : Str} {j k : Nat} {tb : TE} {xs : List V} {ks : List Int} (nd : X.N.Nodup) (hj : X.N[j]? = some x) (L : Lam1 X.env.scope scope x) (hr : Room (k + 2) X.A)
    (bind : ∀ (q : Str) (cl : List (Str × Addr)) (pm cv ctv u : Value), bindArgs (PySem.W.kla_fn "<lambda>" q params body scope cl pm cv ctv) ⟨[u], []⟩ = pure [(x, u)]) (hb : BodyOk X scope body k tb) (nS : f ≠ S) (nI : f ≠ it) (off : f ∉ frs X.stack ∧ S ∉ frs X.stack ∧ it ∉ frs X.stack)
    (hl : ks.length = xs.length) (hG : ∀ H', G H' → SqL X.K H' a xs ∧ H' c' = some (CodeO c' (lamQ X))) (hk : ∀ (i : Nat) (x : V) (n : Int) (H' : Hp), xs[i]? = some x → ks[i]? = some n → G H' → tb (σ.set j (some x)) H' fun k H'' => k = .int n ∧ G H'')
    (hc : ∀ (i j : Nat) (t u : Tok) (m n : Int) (s : Shared) (Q E : Value → Shared → Prop), ks[i]? = some m → ks[j]? = some n → Q (.bool (bt i j)) s → wpAny (model X.prog X.w) X.A.in1 (richCompare op (.int m t) (.int n u)) Q E s) :
    KeyRun X.prog X.w X.A.in1 (.ref f) op S [it] (fun a b => b = a) xs.length (fun i v => ∃ x, xs[i]? = some x ∧ RelV x v) (fun i s => s.heap.IsListIter it a i ∧ ∃ its : List Value, Vals xs its ∧ s.heap.IsList a its.toArray)
      (fun s => ∃ H', Held X pins σ G f S it (lamO X params body scope pm c' ctv) s H') (fun i v _ => ∃ n t, ks[i]? = some n ∧ v = .int n t) bt where
  keep := fun s s' ⟨H', h⟩ m => ⟨H', h.moved nS nI m⟩
  keepV := fun _ _ _ _ h _ => h
  turn := fun i v s ob Q E hi hP hJ hst hS go => by
    obtain ⟨y, hy, ry⟩ := hP
    obtain ⟨H', h⟩ := hJ
    have hn : ks[i]? = some (ks[i]'(by omega)) := List.getElem?_eq_getElem (by omega)
    generalize ks[i]'(by omega) = n at hn
    refine enter h.I nd hj L hr h.ob (hG H' h.g).2 bind ry hb (hk i y n H' hy hn h.g) fun u' s' hq => ?_
    obtain ⟨v', H2, os, bare, un, hok, rv', ev, g2⟩ := hq
    subst ev
    obtain ⟨w', H3, I3, r3, e3, eH⟩ := h.I.after (Q := fun k H => k = .int n ∧ H = H2) ⟨_, H2, os, bare, un, hok, rv', rfl, rfl⟩
    subst eH
    obtain ⟨t, rfl⟩ := rv'
    have kS := un.keep S _ hS h.fS.1 off.2.1 (by simp)
    obtain ⟨oi, ei, ci, di⟩ := hst.1
    have kI := un.keep it _ ei h.fI.1 off.2.2 (by simp)
    have kf := un.keep f _ h.ob h.fn off.1 (by simp)
    obtain ⟨its, rv, p, _⟩ := I3.list (hG H3 g2).1
    refine go _ s' ⟨H3, I3, g2, kf, un.free f _ h.ob h.fn (by simp), ⟨un.free S _ hS h.fS.1 (by simp), h.fS.2⟩, ⟨un.free it _ ei h.fI.1 (by simp), h.fI.2⟩⟩ ⟨⟨oi, kI, ci, di⟩, its, rv, p.isList⟩ kS ⟨n, t, hn, rfl⟩ fun _ _ z => z
  cmp := fun i j ki kj s Q E _ hi hj q => by
    obtain ⟨m, t, em, rfl⟩ := hi
    obtain ⟨n, u, en, rfl⟩ := hj
    exact hc i j t u m n s Q E em en q
end
end LM
set_option maxRecDepth 100000
set_option maxHeartbeats 2000000
namespace LM
open PySem PySem.Spec PyProof.Rows L2 LamX
/-- the walk with keys: ks, those of xs; G, what holds between; fin, what comes of the place found -/
def tKey (K : PySem.W.Frag) (T : List (Addr × Str)) (q : Str) (bt : List Int → Nat → Nat → Bool) (j : Nat) (tb : TE) (t : TA) (fin : List V → Nat → Option V) : TE := fun σ H Q => t σ H fun vs H1 => ∃ (a : Addr) (xs : List V), vs = [.ref a] ∧ SqL K H1 a xs ∧ Tabs T H1 ∧
  ∀ H2 c', Ex3 H1 H2 → Tabs T H2 → H2 c' = some (CodeO c' q) → ∃ (G : Hp → Prop) (ks : List Int), ks.length = xs.length ∧ G H2 ∧ (∀ H', G H' → SqL K H' a xs ∧ H' c' = some (CodeO c' q)) ∧
    (∀ (i : Nat) (x : V) (n : Int) (H' : Hp), xs[i]? = some x → ks[i]? = some n → G H' → tb (σ.set j (some x)) H' fun k H'' => k = .int n ∧ G H'') ∧ ∃ v, fin xs (argBest (bt ks) (xs.length - 1)) = some v ∧ ∀ H', G H' → Q v H'
/-- None, if there is nothing -/
def finN (xs : List V) (i : Nat) : Option V := match xs with
  | [] => some .non
  | _ :: _ => xs[i]?
def fin0 (xs : List V) (i : Nat) : Option V := xs[i]?
section
variable {X : Cx} {params : Arguments} {body : Expr} {scope : Scope} {x : Str} {j k kz : Nat} {tb : TE} {T : List (Addr × Str)} {c P : Addr} {e d : Expr} {t : TA} {p lpos pos k1 k2 k3 : Pos}
theorem best_at {xs : List V} {bt : Nat → Nat → Bool} (h : 0 < xs.length) : argBest bt (xs.length - 1) < xs.length := by
  have : ∀ n, argBest bt n ≤ n := by
    intro n
    induction n with
    | zero => exact Nat.le_refl _
    | succ n ih =>
      unfold argBest
      split
      · exact Nat.le_refl _
      · exact Nat.le_succ_of_le ih
  have := this (xs.length - 1)
  omega
theorem pe_minL (hg : Gl X "min") (hm : X.mg "min" = none) (ha : PA X [e] t) (nd : X.N.Nodup) (hj : X.N[j]? = some x) (L : Lam1 X.env.scope scope x) (hr : Room (k + 2) X.A) (hcalm : X.calm = true)
    (bind : ∀ (q : Str) (cl : List (Str × Addr)) (pm cv ctv u : Value), bindArgs (PySem.W.kla_fn "<lambda>" q params body scope cl pm cv ctv) ⟨[u], []⟩ = pure [(x, u)]) (hb : BodyOk X scope body k tb)
    (tabB : TabB X.base X.mg c P) (hcode : X.env.code = .ref c) (memT : (P, lamQ X) ∈ T) (oneT : ∀ p ∈ T, p.1 = P → p.2 = lamQ X) (hdef : defaultsOf params X.env = ([], []))
    (he : backTo pos (starEach [e] X.env) = (false, eval e X.env) :: backTo pos (starEach [] X.env) := by rfl) (hpl : (backTo pos (starEach [e] X.env)).any (·.1) = false := by rfl) :
    PE X (.Call (.Name "min" p) [e] [⟨some "key", .Lambda params body scope lpos, k1⟩, ⟨some "default", .Constant .none kz k3, k2⟩] pos) (tKey X.K T (lamQ X) ltK j tb t finN) := by
  refine ⟨fun pins s σ H Q I h => ?_⟩
  refine wpAny_Call_Name_kw (ld_blt I hg hm (show bootBuiltins "min" = some (.builtin "min") by rfl) ?_)
  refine PyProof.Rows.callWith_kw (thn (ha.run pos pins s σ H _ I h) fun us s1 ⟨vs, H1, I1, r1, a, xs, ev, hxs, hT, q1⟩ => ?_) he hpl (by rfl) (by rfl)
  subst ev
  obtain rfl := Vals.ref1 r1
  show wpAny _ _ (evalAll [do let v ← eval (.Lambda params body scope lpos) X.env; standAt pos; pure v, do let v ← eval (.Constant .none kz k3) X.env; standAt pos; pure v]) _ _ s1
  refine wpAny_evalAll_cons (wpAny_bind (make I1 tabB hcode memT oneT hT hdef (L.has I1.ok) fun f c' pm ctv H2 s2 I2 ex T2 hf hfn off hco => wpAny_bind (wpAny_standAt (wpAny_pure ?_))))
  obtain ⟨G, ks, hl, g2, hG, hk, v, hfin, hQ⟩ := q1 H2 c' ex T2 hco
  refine wpAny_evalAll_cons (wpAny_bind (show wpAny _ _ (eval (.Constant .none kz k3) X.env) _ _ s2 from wpAny_pure (wpAny_bind (wpAny_standAt (wpAny_pure (wpAny_evalAll_nil ?_))))))
  show wpAny _ _ (call (.builtin "min") [.ref a] [(Str.ofString "key", .ref f), (Str.ofString "default", .none)]) _ _ s2
  obtain ⟨its, rvs, pl, _⟩ := I2.list (hG H2 g2).1
  have hh : X.A.in1.handled = none := I2.ok.hd hcalm
  have lf : f < s2.heap.objs.size := Heap.lt_size hf
  have la : a < s2.heap.objs.size := pl.lt
  refine call_min_walkKD (wpAny_pyIter_list pl.isList ?_)
  have I3 : Inv X pins σ H2 { s2 with heap := s2.heap.push { cls := .type "list_iterator", data := .fields #[.ref a, .int 0 0] } } := I2.kept (t' := s2.toks) fun b o e => Heap.get?_push_of_some _ e
  have sz : (s2.heap.push { cls := .type "list_iterator", data := .fields #[.ref a, .int 0 0] }).objs.size = s2.heap.objs.size + 1 := Heap.size_push ..
  have fpI : FpOk X pins H2 s2.heap.objs.size := I2.fpOk (Nat.le_refl _) (I2.hok.fresh (Nat.le_refl _))
  have fpS : FpOk X pins H2 (s2.heap.push { cls := .type "list_iterator", data := .fields #[.ref a, .int 0 0] }).objs.size := I3.fpOk (Nat.le_refl _) (I3.hok.fresh (Nat.le_refl _))
  have nI : f ≠ s2.heap.objs.size := Nat.ne_of_lt lf
  have nS : f ≠ (s2.heap.push { cls := .type "list_iterator", data := .fields #[.ref a, .int 0 0] }).objs.size := Nat.ne_of_lt (by rw [sz]; exact Nat.lt_succ_of_lt lf)
  have out : ∀ (u : Value) (s' : Shared), (∃ H', Held X pins σ G f (s2.heap.push { cls := .type "list_iterator", data := .fields #[.ref a, .int 0 0] }).objs.size s2.heap.objs.size (lamO X params body scope pm c' ctv) s' H') → RelV v u → EP X pins σ Q u s' := fun u s' hJ r => by
    obtain ⟨H', hd⟩ := hJ
    exact ⟨v, H', hd.I, r, hQ H' hd.g⟩
  refine ⟨s2.heap.objs.size, [s2.heap.objs.size, a], [s2.heap.objs.size], _, xs.length, _, _, _, _, ltK ks, rfl, walks hh (Nat.ne_of_lt la), ⟨⟨_, Heap.get?_push_size _ rfl, rfl, rfl⟩, its, rvs, pl.isList.at fun o e => Heap.get?_push_of_some _ e⟩, fun b hb => ?_,
    keyRun (G := G) (ks := ks) nd hj L hr bind hb nS nI ⟨off, off_frames I3 (Nat.le_refl _), off_frames I2 (Nat.le_refl _)⟩ hl hG hk (fun i j t u m n s Q E em en q => ?_), ⟨H2, I3, g2, Heap.get?_push_of_some _ hf, hfn, fpS, fpI⟩, fun hn s' hJ => ?_, fun hn u s' hP hJ => ?_⟩
  · rw [sz]
    rcases List.mem_cons.mp hb with z | z
    · rw [z]; exact Nat.lt_succ_self _
    · rw [List.mem_singleton.mp z]; exact Nat.lt_succ_of_lt la
  · refine wpAny_lt_int (?_ : Q _ s)
    have e1 : ks.getD i 0 = m := by rw [List.getD_eq_getElem?_getD, em]; rfl
    have e2 : ks.getD j 0 = n := by rw [List.getD_eq_getElem?_getD, en]; rfl
    unfold ltK at q
    rw [e1, e2] at q
    exact q
  · cases xs with
    | nil =>
      cases hfin
      exact out _ s' hJ rfl
    | cons y ys => cases hn
  · obtain ⟨y, hy, ry⟩ := hP
    refine out u s' hJ ?_
    cases xs with
    | nil => cases hn
    | cons z zs =>
      have e3 : (z :: zs)[argBest (ltK ks) ((z :: zs).length - 1)]? = some v := hfin
      rw [hy] at e3
      cases e3
      exact ry
end
end LM
set_option maxRecDepth 100000
set_option maxHeartbeats 4000000
/-! min(xs, key=lambda ..: .., default=None) as trees -/
namespace Tr
open PySem PySem.Spec PyProof.Rows L2 Tm
variable [Cl] [Tt]
section
variable {d : Option Addr} {te tb : TE} {me mb : ME}
omit [Cl] [Tt] in
def isIn (n : Int) : T → Bool
  | .int i => i == n
  | _ => false
omit [Cl] [Tt] in
/-- a[b], a a list, b a number -/
def kfIx (a b : Nat) (σ : Sg) : Int := match σ[a]?, σ[b]? with
  | some (.val (.lst ts)), some (.val (.int i)) => match ts[i.toNat]? with
    | some (.int n) => n
    | _ => 0
  | _, _ => 0
/-- the first place of the least key -/
def mMinK (mx mb : ME) (kf : Sg → Int) (j : Nat) : ME := fun σ k => mx σ fun x => match x with
  | .lst ts => ts.all (fun t => mb (σ.set j (.val t)) (isIn (kf (σ.set j (.val t))))) && (match ts with
    | [] => k .non
    | t0 :: r => match ts[argBest (LM.ltK (ts.map fun t => kf (σ.set j (.val t)))) (ts.length - 1)]? with
      | some t => k t
      | none => false)
  | _ => false
theorem up_ex3 {F H H2 : Hp} (w : Wd d F H) (ex : LM.Ex3 H H2) (T2 : LamX.Tabs Cl.tb H2) : Up d F H F H2 := by
  refine ⟨Le.refl F, fun a o _ nt e => ex.keep a o nt e, ex.there, fun _ _ => rfl, w.dt, fun a o e => ?_, fun x hx => ?_, T2, w.nt⟩
  · rcases w.sub a o e with z | ⟨ob, kvs, c, z⟩
    · exact .is (ex.keep a o (w.nt a o e) z)
    · exact .lock ob kvs c (ex.keep a _ (nt_frz _ _) z)
  · obtain ⟨⟨D, M, hd, tp⟩, t2⟩ := w.tape x hx
    exact ⟨⟨D, M, ex.keep x _ (by unfold tapeO; exact nt_dK _) hd, tp⟩, t2⟩
theorem s_minK {q : Str} {kf : Sg → Int} {j : Nat} (he : SE d te me) (hb : SE d tb mb) : SE d (LM.tKey Cl.K Cl.tb q LM.ltK j tb (tCons te tNil) LM.finN) (mMinK me mb kf j) := by
  intro F H σ σ' st k hk Q q
  refine he F H σ σ' st _ hk _ fun v x F1 H1 u1 r1 h1 => ?_
  split at h1
  · rename_i ts
    rw [Bool.and_eq_true] at h1
    obtain ⟨ha, hk2⟩ := h1
    cases r1 with
    | lst f r1 =>
      rename_i a vs
      refine ⟨a, vs, rfl, rd_sql u1.wd f, u1.wd.tabs, fun H2 c' ex T2 hco => ?_⟩
      have u2 := up_ex3 u1.wd ex T2
      have u12 := u1.trans u2 st.wd
      have ln := r1.len
      have fin : ∃ t v, (match ts with
          | [] => k .non = true ∧ v = V.non ∧ vs = []
          | _ :: _ => k t = true ∧ RT F1 v t ∧ vs ≠ [] ∧ vs[argBest (LM.ltK (ts.map fun t => kf (σ'.set j (.val t)))) (vs.length - 1)]? = some v) := by
        cases ts with
        | nil =>
          cases r1
          exact ⟨.non, .non, hk2, rfl, rfl⟩
        | cons t0 r =>
          dsimp only at hk2 ⊢
          split at hk2
          · rename_i t et
            obtain ⟨v, e1, e2⟩ := RTs.at r1 et
            rw [← ln] at e1
            exact ⟨t, v, hk2, e2, (fun z => by rw [z] at ln; cases ln), e1⟩
          · cases hk2
      obtain ⟨t, v, fin⟩ := fin
      refine ⟨fun H' => ∃ F', Up d F1 H2 F' H', ts.map fun t => kf (σ'.set j (.val t)), by rw [List.length_map, ln], ⟨F1, Up.refl u2.wd⟩, fun H' ⟨F', u3⟩ => ⟨rd_sql u3.wd (u3.f _ _ f), ?_⟩, fun i x n H' hx hn ⟨F', u3⟩ => ?_, v, ?_, fun H' ⟨F', u3⟩ => ?_⟩
      · by_cases cc : d = some c'
        · obtain ⟨⟨D, M, hd, tp⟩, t2⟩ := u2.wd.tape c' cc
          rw [hco] at hd
          unfold LamX.CodeO tapeO at hd
          cases hd
        · exact u3.keep c' _ cc (by unfold LamX.CodeO; exact nt_ext _) hco
      · obtain ⟨t, et, rt⟩ := RTs.at' r1 hx
        rw [List.getElem?_map, et] at hn
        cases hn
        have u123 := u12.trans u3 st.wd
        have s3 := (st.up u123).setVal j (rt.mono u3.f)
        refine hb F' H' _ _ s3 _ (List.all_eq_true.mp ha t (List.mem_of_getElem? et)) _ fun w y F4 H4 u4 r4 h4 => ?_
        cases y with
        | int z =>
          cases r4
          have : z = kf (σ'.set j (.val t)) := by
            unfold isIn at h4
            exact beq_iff_eq.mp h4
          subst this
          exact ⟨rfl, F4, u3.trans u4 u2.wd⟩
        | _ => cases h4
      · cases ts with
        | nil =>
          obtain ⟨_, rfl, rfl⟩ := fin
          rfl
        | cons t0 r =>
          obtain ⟨_, _, ne, e⟩ := fin
          cases vs with
          | nil => exact absurd rfl ne
          | cons v0 vr => exact e
      · cases ts with
        | nil =>
          obtain ⟨k1, rfl, _⟩ := fin
          exact q _ _ F' H' (u12.trans u3 st.wd) .non k1
        | cons t0 r =>
          obtain ⟨k1, rt, _, _⟩ := fin
          exact q _ _ F' H' (u12.trans u3 st.wd) (rt.mono u3.f) k1
  · cases h1
end
end Tr
set_option maxRecDepth 100000
set_option maxHeartbeats 4000000
/-! A def in which a lambda is made: its code object and the table; a law over such a def. -/
namespace Tr
open PySem PySem.Spec PyProof.Rows L2 Tm
structure TabX (K : PySem.W.Frag) (base : Heap) (mg : Str → Option Value) (tb : List (Addr × Str)) (x q : Str) : Prop where
  ex : ∀ (f : Addr) (oc : Value) (od : Option Addr) (fd : FuncData) (osl : Array (Option Value)), mg x = some (.ref f) → K.lookup f = some ⟨oc, od, .func fd, osl⟩ →
    ∃ c P : Addr, fd.code = .ref c ∧ LamX.TabB base mg c P ∧ (P, q) ∈ tb ∧ ∀ p ∈ tb, p.1 = P → p.2 = q
section
variable {P : Program} {w : World} {K : PySem.W.Frag} {mg : Str → Option Value} {base : Heap}
theorem cal_ofT {x q : Str} {st : Stmt} {N ps : List Str} {k : Nat} {sp : Sp} {tb : List (Addr × Str)} (F : DefX K mg x st) (tx : TabX K base mg tb x q) (S : FnScope N ps (C8.fnScope st))
    (hb : ∀ (kV doc pm : Value) (an : Option Addr) (cdv ct : Value) (us : List Value), us.length = ps.length → bindArgs (PySem.W.fnOf x x (C8.fnArgs st) (C8.fnBody st) (C8.fnScope st) .none kV doc pm an cdv ct) ⟨us, []⟩ = pure (ps.zip us))
    (len : ∀ vs H Q E, sp vs H Q E → vs.length = ps.length)
    (go : ∀ (f c Pt : Addr), LamX.TabB base mg c Pt → (Pt, q) ∈ tb → (∀ p ∈ tb, p.1 = Pt → p.2 = q) → ∀ (A : Around) (outer : List Env) (s : Shared) (H : Hp) (vs : List V) (Q : VK) (E : XK), Room k (A.deeper (envOfC x (C8.fnScope st) s.heap.objs.size f (.ref c))) → sp vs H Q E →
      ∃ t, PSs (cxOf C8.CX0 P w K mg base N x (C8.fnScope st) f (.ref c) A outer s H E).nox (C8.fnBody st) t ∧ t { nx := fun _ H' => Q .non H', rt := Q } (start N vs) H) : C8.Cal P w K mg base (k + 1) x sp [] := by
  obtain ⟨f, fd, D, df⟩ := F.ex
  have bnd := D.fn.binds df hb
  obtain ⟨oc, od, dV, kV, doc, pm, an, cdv, ct, osl, rfl, lk, hcd⟩ := D.fn.ex
  obtain ⟨c, Pt, ec, tB, mT, oT⟩ := tx.ex f oc od _ osl D.mgf lk
  have ec : cdv = .ref c := ec
  subst ec
  refine ⟨f, _, ps, [], fn_of lk hcd S len fun A outer s H vs Q E hr h => ?_, D.mgf, D.kp, bnd, .nil⟩
  obtain ⟨t, h1, h2⟩ := go f c Pt tB mT oT A outer s H vs Q E hr h
  exact ⟨t, h1.nox, h2⟩
end
def spLawT (K : PySem.W.Frag) (tb : List (Addr × Str)) : Sp := fun vs H Q _ => ∃ (a : Addr) (ns : List Int), vs = [.ref a] ∧ SqL K H a (ns.map V.int) ∧ (∀ z ∈ ns, Builtin.Int.intBits z ≤ 1048576) ∧ LamX.Tabs tb H ∧ ∀ H', Q (.bl true) H'
/-- the code object of the def x at c, its table at Pt -/
def CodeX (h : Heap) (mg : Str → Option Value) (x : Str) (c : Addr) : Prop := ∃ a o fd, mg x = some (.ref a) ∧ h.get? a = some o ∧ o.data = .func fd ∧ fd.code = .ref c
theorem tabX_of {K : PySem.W.Frag} {h base : Heap} {mg : Str → Option Value} {x q : Str} {c Pt : Addr} (KX : K.In h) (cx : CodeX h mg x c) (tB : LamX.TabB base mg c Pt) : TabX K base mg [(Pt, q)] x q :=
  ⟨fun f oc od fd osl hm hl => by
    obtain ⟨a, o, fd', e1, e2, e3, e4⟩ := cx
    rw [hm] at e1
    cases e1
    have e5 := KX _ _ hl
    rw [e2] at e5
    cases e5
    cases e3
    exact ⟨c, Pt, e4, tB, by simp, fun p hp _ => by
      have hp : p = (Pt, q) := by simpa using hp
      rw [hp]⟩⟩
theorem walkT {l : PySem.W.OpenLaw} {q : Program} {loose : List Str} {XP : (Str → Option Value) → Heap → Prop} {YP : World → Heap → Prop} {d : DefRec} {K : Params → PySem.W.Frag} {n kk : Nat} {x qn : Str} (hn : l.most = some n) (hz : n ≤ 10000) (hdf : d.params.defaults = []) (hk : Room kk callerA)
    (hY : ∀ (w : World) (h : Heap), YP w h → (K w.params).In h) (hx : (recsOf q).any (fun r => decide (r.name = x)) = true) (he : ∀ w : World, (K w.params).all (fun p => !He.emptyTab p.2) = true)
    (F : ∀ (w : World) (mg : Str → Option Value) (fa : Addr) (h : Heap), (K w.params).In h → h.Ns mainGlobals mg → mg d.name = some (.ref fa) → ∀ c Pt : Addr, CodeX h mg x c →
      ∃ fd : FuncData, (∀ (s : Shared) (u : Value), BindsTo s fd ⟨[u], []⟩ [("script", u)]) ∧ ∀ base : Heap, (K w.params).In base → base.Ns mainGlobals mg → LamX.TabB base mg c Pt → FnOk l.prog w (K w.params) mg base C8.CX0 kk fa fd ["script"] (spLawT (K w.params) [(Pt, qn)])) :
    PySem.W.WalkO q loose XP YP l.row.toRowW d [] (fun f vs => PySem.call f vs) := by
  refine Att.attach_callB hn hdf fun w s₀ s₁ mg mb fa o pm cd doc a vs ns G Y ho hd hcd hmg hobj hints hlen hbits hg => ?_
  have KX := hY w _ Y
  obtain ⟨r, hr, er⟩ := List.any_eq_true.mp hx
  have er : r.name = x := of_decide_eq_true er
  obtain ⟨a1, o1, fd1, c, Pt, m1, g1, d1, c1, ic, ta⟩ := G.T.tab r hr
  rw [er] at m1
  have cx : CodeX s₁.heap mg x c := ⟨a1, o1, fd1, m1, g1, d1, c1⟩
  obtain ⟨fd, hb, hF⟩ := F w mg fa _ KX G.T.g hmg c Pt cx
  have hP : s₁.heap.get? Pt = some { cls := .none, data := .fields #[] } := ta.2
  have nK : (K w.params).lookup Pt = none := by
    cases e : (K w.params).lookup Pt with
    | none => rfl
    | some u =>
      have e2 := KX _ _ e
      rw [hP] at e2
      cases e2
      have := List.all_eq_true.mp (he w) _ (He.lookup_mem e)
      cases this
  have le : n ≤ sizeLine := len_le hz
  refine LamX.law_callTs (cs := [(c, Pt)]) (CX := C8.CX0) (k := kk) (x := "script") KX G.T.g G.T.b G.T.builtins G.T.nolimit hg (fun p hp => ?_) (fun p hp => ?_) (fun p hp => ?_) G.T.bmain hobj hints (Nat.le_trans hlen le) hk (fun base h1 h2 h3 => hF base h1 h2 (h3 (c, Pt) (by simp))) hb
    (fun H hH hS => ⟨a, ns, rfl, hS, hbits, fun p hp => ?_, fun _ => rfl⟩) fun _ _ _ z => z
  · obtain rfl : p = (c, Pt) := by simpa using hp
    exact hP
  · obtain rfl : p = (c, Pt) := by simpa using hp
    exact nK
  · obtain rfl : p = (c, Pt) := by simpa using hp
    exact PySem.W.CodeHd.of ic ta
  · obtain rfl : p = (Pt, qn) := by simpa using hp
    exact LamX.TabS.nil (hH (c, Pt) (by simp))
end Tr
set_option maxRecDepth 100000
set_option maxHeartbeats 1000000
/-! tuple * int, from 0 times on -/
namespace Tm
open PySem PySem.Spec PyProof.Rows L2
theorem mul_once (l : Addr) (items : Array Value) (n : Nat) (dd : Option Addr) (sl : Array (Option Value)) (u : Tok) :
    Meets (Builtin.«tuple.__mul__» ⟨[.ref l, .int 1 u], []⟩) (fun _ R s => s.heap.get? l = some { cls := .type "tuple", dict := dd, data := .seq items n, slots := sl } ∧ R (.ok (.ret (.ref l))) s) :=
  .of_wp fun prog w A R s h => by
    obtain ⟨hp, g, d, tk, os⟩ := s
    obtain ⟨hl, h⟩ := h
    have f1 := AutoSeq1.idx_int
    have c1 : (items.isEmpty || (1 : Int) == 1) = true := by simp
    have ty : (⟨hp, g, d, tk, os⟩ : Shared).TypeIs (.ref l) "tuple" := ⟨_, hl, rfl⟩
    wp_walk using wpAny_loadPart' hl, wpAny_typeOf ty
    repeat (first
      | (refine wpAny_ite_false (decide_eq_false (by decide)) ?_; wp_walk using wpAny_loadPart' hl, wpAny_typeOf ty)
      | (refine wpAny_ite_true (decide_eq_true (by simp)) ?_; wp_walk using wpAny_loadPart' hl, wpAny_typeOf ty))
    all_goals exact ⟨_, rfl, h⟩
theorem mul_never (l : Addr) (items : Array Value) (n : Nat) (dd : Option Addr) (sl : Array (Option Value)) (u : Tok) (ne : items.isEmpty = false) :
    Meets (Builtin.«tuple.__mul__» ⟨[.ref l, .int 0 u], []⟩) (fun _ R s => s.heap.get? l = some { cls := .type "tuple", dict := dd, data := .seq items n, slots := sl } ∧
      R (.ok (.ret (.ref s.heap.objs.size))) { s with heap := s.heap.push { cls := Value.type "tuple", data := Data.seq #[] }, toks := s.toks }) :=
  .of_wp fun prog w A R s h => by
    obtain ⟨hp, g, d, tk, os⟩ := s
    obtain ⟨hl, h⟩ := h
    have f1 := AutoSeq1.idx_int
    wp_walk using wpAny_loadPart' hl
    repeat (first
      | (refine wpAny_ite_false (decide_eq_false (by first | decide | (rw [ne]; decide))) ?_; wp_walk using wpAny_loadPart' hl)
      | (refine wpAny_ite_true (decide_eq_true (by simp)) ?_; wp_walk using wpAny_loadPart' hl))
    all_goals exact ⟨_, rfl, h⟩
def rRepB (K : PySem.W.Frag) : R2 := fun x y H Q => ∃ l k xs, x = .ref l ∧ y = .int k ∧ SqT K H l xs ∧ xs ≠ [] ∧ 0 ≤ k ∧ k ≤ 1000 ∧ xs.length ≤ 1000 ∧ (k = 1 → Q (.ref l) H) ∧
  (k ≠ 1 → ∀ (p : Addr) (ob : Obj), H p = none → ob.dict = none → Q (.ref p) (upd H p (.frz ob (.tup (List.replicate k.toNat xs).flatten))))
theorem op_repB {X : Cx} : OpR X (binaryOp .Mult) (rRepB X.K) := by
  intro pins s σ H x y v u Q I rx ry h
  obtain ⟨l, k, xs, rfl, rfl, hT, hne, h0, h2, hz, q1, q2⟩ := h
  cases rx
  obtain ⟨t, rfl⟩ := ry
  obtain ⟨its, r, ⟨⟨cls, dd, data, sl⟩, ho, hc, n, hd⟩, hs⟩ := I.tuple hT
  simp only at hc hd
  subst hc hd
  have hle : its.length = xs.length := r.length.symm
  have hn : its ≠ [] := fun e => hne (by
    rw [e] at hle
    exact List.eq_nil_of_length_eq_zero hle.symm)
  have hi : its.toArray.isEmpty = false := by
    cases its with
    | nil => exact absurd rfl hn
    | cons a b => rfl
  have ty : ∀ s' : Shared, s'.TypeIs (.int k t) "int" := fun s' => typeIs_int s' k t
  have frame : ∀ {S : PySem.Spec}, Meets (Builtin.«tuple.__mul__» ⟨[.ref l, .int k t], []⟩) S → (S X.A (wants (EP X pins σ Q) X.xe) s → wpAny (model X.prog X.w) X.A (binaryOp .Mult (.ref l) (.int k t)) (EP X pins σ Q) X.xe s) := fun {S} g hS =>
    wpAny_binaryOp_repeat_ref (T := "tuple") (U := "int") (by decide) ⟨_, ho, rfl⟩ ty noFill_tuple_mul F.fills_int_mul F.slot_int_rmul repeat_tuple F.slot_int_index.lookup
      (call_meets F.slot_int_rmul (typeIs_int s k t) F.entry_int_rmul (F.args_int_rmul_2 _ _) (int_rmul_tuple k t l its.toArray n dd sl)
        ⟨ho, rfl, ⟨_, ho, rfl⟩, call_meets F.slot_tuple_mul ⟨_, ho, rfl⟩ F.entry_tuple_mul (F.args_tuple_mul_2 _ _) g hS⟩)
  by_cases k1 : k = 1
  · subst k1
    exact frame (mul_once l its.toArray n dd sl t) ⟨ho, ⟨.ref l, H, I, rfl, q1 rfl⟩⟩
  by_cases k0 : k = 0
  · subst k0
    refine frame (mul_never l its.toArray n dd sl t hi) ⟨ho, ?_⟩
    have at_ : (s.heap.push { cls := .type "tuple", data := .seq #[] }).get? s.heap.objs.size = some { cls := .type "tuple", data := .seq #[] } := Heap.get?_push_size _ rfl
    exact ⟨.ref s.heap.objs.size, _, I.laid (t' := s.toks) (fun b ob q => Heap.get?_push_of_some _ q) (Nat.le_refl _) (show ObjOk X.prog X.w _ _ _ (.frz _ (.tup (List.replicate (0 : Int).toNat xs).flatten)) from ⟨at_, Nat.zero_le _, [], .nil, ⟨_, at_, rfl, _, rfl⟩⟩), rfl, q2 k1 _ _ (I.hok.fresh (Nat.le_refl _)) rfl⟩
  have hsz0 : its.toArray.size = xs.length := by rw [List.size_toArray, hle]
  have hm : ((its.toArray.size : Nat) : Int) * k ≤ 1000000 := by
    rw [hsz0]
    have a1 : ((xs.length : Nat) : Int) * k ≤ 1000 * k := Int.mul_le_mul_of_nonneg_right (by omega) (by omega)
    omega
  have many : k.toNat * xs.length ≤ 1000 * 1000 := Nat.mul_le_mul (by omega) hz
  have flen : (List.replicate k.toNat its).flatten.length ≤ sizeLine := by
    rw [PyProof.Rows.lm_len_rep_flat, hle, sizeLine_eq]
    omega
  have c0 : (decide (k < -(2 ^ 63)) || decide (k ≥ 2 ^ 63)) = false := by
    rw [decide_eq_false (by omega), decide_eq_false (by omega)]
    rfl
  have c1 : (its.toArray.isEmpty || k == 1) = false := by
    rw [hi, Bool.false_or]
    exact beq_eq_false_iff_ne.mpr k1
  have c2 : (decide (k ≤ 0) || its.toArray.isEmpty) = false := by
    rw [hi, Bool.or_false]
    exact decide_eq_false (by omega)
  have c4 : Builtin.Tuple.tupleTooMany (((its.toArray.size : Nat) : Int) * k) = false := by
    unfold Builtin.Tuple.tupleTooMany
    rw [sizeLine_eq]
    exact decide_eq_false (by omega)
  refine frame (tuple_mulW l its.toArray n dd sl k t c0 c1 c2 (by omega) c4 (by rw [size_rep, List.size_toArray]; exact flen)) ⟨ho, ?_⟩
  rw [size_rep]
  have at_ : (s.heap.push { cls := .type "tuple", data := .seq (List.replicate k.toNat its).flatten.toArray }).get? s.heap.objs.size = some { cls := .type "tuple", data := .seq (List.replicate k.toNat its).flatten.toArray } := Heap.get?_push_size _ rfl
  exact ⟨.ref s.heap.objs.size, _, I.laid (t' := s.toks) (fun b ob q => Heap.get?_push_of_some _ q) (Nat.le_refl _) (show ObjOk X.prog X.w _ _ _ (.frz _ (.tup (List.replicate k.toNat xs).flatten)) from ⟨at_, by rw [PyProof.Rows.lm_len_rep_flat, sizeLine_eq]; omega, _, r.rep k.toNat, ⟨_, at_, rfl, _, rfl⟩⟩), rfl, q2 k1 _ _ (I.hok.fresh (Nat.le_refl _)) rfl⟩
end Tm
set_option maxRecDepth 100000
set_option maxHeartbeats 4000000
/-! Trees: + and | of instances by the class's own def; list.index. -/
namespace Tr
open PySem PySem.Spec PyProof.Rows L2 Tm
variable [Cl] [Tt]
section
omit [Cl] [Tt]
variable {X : Cx}
def rOwnBin (C : Addr) (sp : Sp) : R2 := fun x y H Q => ∃ a b dx dy fs gs, x = V.ref a ∧ y = V.ref b ∧ H a = some (.ins C dx fs) ∧ H b = some (.ins C dy gs) ∧ sp [.ref a, .ref b] H (fun v H' => ∃ r, v = .ref r ∧ Q (.ref r) H') C8.E0
structure BinM (P : Program) (w : World) (K : PySem.W.Frag) (mg : Str → Option Value) (base : Heap) (k : Nat) (C : Addr) (nm : Str) (sp : Sp) : Prop where
  ex : ∃ (f : Addr) (fd : FuncData) (ps : List Str), FnOk P w K mg base C8.CX0 k f fd ps sp ∧ PySem.W.selfFirst K C = true ∧ PySem.W.findIn K (.ref C) nm = some (some (.ref f)) ∧ PySem.W.isFn K (.ref f) = true ∧ Binds K fd ps []
theorem op_binOwn {j k : Nat} {C : Addr} {sp : Sp} {op : Operator} {nm : Str} (M : BinM X.prog X.w X.K X.mg X.base k C nm sp) (hn : PySem.dunder op.info.2 = nm) (room : Room j X.A) (le : k ≤ j) : OpR X (binaryOp op) (rOwnBin C sp) := by
  intro pins s σ H x y v u Q I rx ry h
  obtain ⟨f, fd, ps, F, first, isOp, isF, bind⟩ := M.ex
  obtain ⟨a, b, dx, dy, fs, gs, rfl, rfl, h1, h2, told⟩ := h
  cases rx
  cases ry
  obtain ⟨m1, O1, _⟩ := ins_get I.hok h1
  obtain ⟨m2, O2, _⟩ := ins_get I.hok h2
  obtain ⟨o1, at1, _⟩ := O1.look
  obtain ⟨o2, at2, _⟩ := O2.look
  obtain ⟨m, fr⟩ := I.fr
  refine PySem.W.binop_K fr I.ok.mod.kin at1 at2.type first (by rw [hn]; exact isOp) isF ?_
  have two : Vals [V.ref a, V.ref b] [Value.ref a, Value.ref b] := .cons rfl (.cons rfl .nil)
  have many := F.len _ _ _ _ told
  have bnd := bind s [.ref a, .ref b] I.kIn (by simpa using many)
  refine wpAny_call (codeAny_mono (F.run X.A X.stack s H ⟨[.ref a, .ref b], []⟩ [.ref a, .ref b] [.ref a, .ref b] _ C8.E0 (room.mono le) I.env0 (by simpa using bnd) two told) fun r s' got => ?_)
  cases r with
  | error e => exact C8.pass0 (E := C8.E0) pins σ H s e s' I got
  | ok flow =>
    cases flow with
    | next => exact False.elim got
    | brk => exact False.elim got
    | cont => exact False.elim got
    | ret w =>
      obtain ⟨z, H', I', rz, r, ez, q⟩ := I.after got
      subst ez
      cases rz
      exact ⟨.ref r, H', I', rfl, q⟩
end
section
variable {d : Option Addr}
def oOwnBin (C : Nat) (f : Fn) : O2 := fun x y k => match x, y with
  | .ins c _, .ins c' _ => decide (c = C) && (decide (c' = C) && f [x, y] fun z => match z with
    | .ins _ _ => k z
    | _ => false)
  | _, _ => false
theorem os_ownBin {C : Nat} {f : Fn} : OpS d (rOwnBin (Cl.ad C) (spT 2 f)) (oOwnBin C f) := by
  intro F H v w x y wd rx ry k hk Q q
  unfold oOwnBin at hk
  split at hk
  · rename_i c fs c' gs
    rw [Bool.and_eq_true, Bool.and_eq_true, decide_eq_true_eq, decide_eq_true_eq] at hk
    obtain ⟨rfl, e2, hk⟩ := hk
    subst e2
    have ed := wd.dt
    subst ed
    cases rx with
    | ins e1 r1 =>
      cases ry with
      | ins e2 r2 =>
        refine ⟨_, _, _, _, _, _, rfl, rfl, rd_ins wd e1, rd_ins wd e2, inferInstance, F, _, wd, .cons (.ins e1 r1) (.cons (.ins e2 r2) .nil), rfl, _, hk, fun v t F' H' u r h => ?_⟩
        cases t with
        | ins c2 fs2 =>
          cases r with
          | ins e3 r3 => exact ⟨_, rfl, q _ _ F' H' u (.ins e3 r3) h⟩
        | _ => cases h
  · cases hk
end
/-! tuple * int -/
section
variable {d : Option Addr}
def oRepT : O2 := fun x y k => match x, y with
  | .tup a, .int n => !a.isEmpty && (decide (0 ≤ n) && (decide (n ≤ 1000) && (decide (a.length ≤ 1000) && k (.tup (List.replicate n.toNat a).flatten))))
  | _, _ => false
theorem os_repT : OpS d (_root_.Tm.rRepB Cl.K) oRepT := by
  intro F H v w x y wd rx ry k hk Q q
  unfold oRepT at hk
  split at hk
  · rename_i a n
    simp only [Bool.and_eq_true, decide_eq_true_eq, Bool.not_eq_true'] at hk
    obtain ⟨h0, h1, h2, h3, hk⟩ := hk
    cases ry
    cases rx with
    | tup e1 r1 =>
      rename_i p vs
      refine ⟨_, n, _, rfl, rfl, rd_sqt wd e1, fun z => ?_, h1, h2, by rw [r1.len]; exact h3, fun e => ?_, fun _ l ob hl hob => ?_⟩
      · subst z
        cases r1
        cases h0
      · subst e
        exact q _ _ F H (Up.refl wd) (.tup e1 r1) (by simpa using hk)
      · have u := up_lay (o := .frz ob (.tup (List.replicate n.toNat vs).flatten)) wd hl
        exact q _ _ _ _ u (.tup (.inl ⟨ob, hob, upd_same⟩) ((rts_rep r1 _).mono u.f)) hk
  · cases hk
end
/-! xs.index(x) of plain things -/
section
variable {d : Option Addr} {te : TE} {me : ME} {t : TA} {m : MA}
def idxT (y : V) : List V → Nat → Option Nat
  | [], _ => none
  | z :: zs, n => if eqV z y then some n else idxT y zs (n + 1)
theorem idxT_ok {y : V} : ∀ {zs : List V} {n j : Nat}, idxT y zs n = some j → ∃ i z, j = n + i ∧ zs[i]? = some z ∧ eqV z y = true ∧ ∀ (m : Nat) (z' : V), m < i → zs[m]? = some z' → eqV z' y = false
  | [], n, j, e => by cases e
  | z :: zs, n, j, e => by
    unfold idxT at e
    split at e
    · rename_i h
      cases e
      exact ⟨0, z, rfl, rfl, h, fun m _ hm => absurd hm (Nat.not_lt_zero m)⟩
    · rename_i h
      obtain ⟨i, z2, rfl, e1, e2, e3⟩ := idxT_ok e
      refine ⟨i + 1, z2, by omega, by simpa using e1, e2, fun m z' hm ez => ?_⟩
      cases m with
      | zero =>
        cases ez
        simpa using h
      | succ m => exact e3 m z' (by omega) (by simpa using ez)
def mIndex (me : ME) (m : MA) : ME := fun σ k => me σ fun x => match x with
  | .lst ts => m σ fun xs => match xs with
    | [t] => match svs ts, sv t with
      | some vs, some y => flatV y && (vs.all flatV && match idxT y vs 0 with
        | some j => k (.int j)
        | none => false)
      | _, _ => false
    | _ => false
  | _ => false
theorem s_index (ho : SE d te me) (ha : SA d t m) : SE d (tBM Cl.K "list" (rIndex Cl.K) te t) (mIndex me m) := by
  intro F H σ σ' st k hk Q q
  refine ho F H σ σ' st _ hk _ fun v x F1 H1 u1 r1 h1 => ?_
  split at h1
  · rename_i ts
    cases r1 with
    | lst f r =>
      refine ⟨.inl ⟨rfl, _, rd_sql u1.wd f⟩, ha F1 H1 σ σ' (st.up u1) _ h1 _ fun vs xs F2 H2 u2 r2 h2 => ?_⟩
      split at h2
      · rename_i t
        split at h2
        · rename_i us y e1 e2
          rw [Bool.and_eq_true, Bool.and_eq_true] at h2
          obtain ⟨f1, f2, h3⟩ := h2
          split at h3
          · rename_i j ej
            obtain ⟨i, z, rfl, a1, a2, a3⟩ := idxT_ok ej
            obtain ⟨w, rfl, rw_⟩ := rts1 r2
            obtain rfl := sv_rt rw_ e2
            obtain rfl := svs_rt r e1
            exact ⟨_, _, _, i, z, rfl, rfl, rd_sql u2.wd (u2.f _ _ f), f1, f2, a1, a2, a3, q _ _ F2 H2 (u1.trans u2 st.wd) (.int _) (by rw [Nat.zero_add] at h3; exact h3)⟩
          · cases h3
        · cases h2
      · cases h2
  · cases h1
end
end Tr
namespace Tr
open PySem PySem.Spec PyProof.Rows L2 Tm
variable [Cl]
theorem pi_listC {X : Cx} {tg l : Expr} {tl : TE} (hl : PE X l tl) (hK : X.K = Cl.K := by rfl) : PI X tg l (iList Cl.K tl) := hK ▸ pi_list hl
end Tr
namespace Tr
open PySem PySem.Spec PyProof.Rows L2 Tm
section
variable {X : Cx} {k j : Nat} {C : Addr} {x : Str} {sp : Sp} {dvs : List V} {p pos : Pos}
theorem pe_c0 (c : C8.Cal X.prog X.w X.K X.mg X.base k x sp dvs) (hr : Room j X.A) (hk : k ≤ j) (hg : Gl X x) (hdb : (x == ("__debug__" : Str)) = false := by decide) : PE X (.Call (.Name x p) [] [] pos) (tCall sp dvs C8.E0 tNil) := by
  obtain ⟨f, fd, ps, ds, F, hm, kp, b, d⟩ := c.ex
  exact pe_call0 F (hr.mono hk) hg hm kp b d C8.pass0 hdb
end
end Tr
set_option maxRecDepth 100000
set_option maxHeartbeats 4000000
/-! sorted({text for .. in .. for .. in ..}): a set comprehension with two clauses. -/
namespace SC
open PySem PySem.Spec PyProof.Rows L2 Tr
section
variable {prog : Program} {w : World} {A : Around} {R : Result → Shared → Prop} {s : Shared} {elt t0 i0 t1 i1 : Expr} {scope : Scope} {pos : Pos} {it acc : Value} {env : Env}
/-- the comprehension -/
abbrev sc (elt t0 i0 t1 i1 : Expr) (scope : Scope) (pos : Pos) : Expr := .SetComp elt [⟨t0, i0, [], 0⟩, ⟨t1, i1, [], 0⟩] scope pos
theorem turn0 : compTurn (sc elt t0 i0 t1 i1 scope pos) 0 it acc env = (do
      standAt i0.pos
      match ← pyNext it with
      | none => pure (.done .next)
      | some v =>
        letOwnedTupleGo t0 it v
        assign t0 env v
        let x ← eval i1 env
        standAt i1.pos
        let x ← foldedSetIterable i1 env x
        let _ ← runOwn (.compStart (sc elt t0 i0 t1 i1 scope pos) 1 (← holding [x] (pyIter x)) acc env) env
        again (.compLoop (sc elt t0 i0 t1 i1 scope pos) 0 it acc env)) := by rfl
theorem turn1 : compTurn (sc elt t0 i0 t1 i1 scope pos) 1 it acc env = (do
      standAt i1.pos
      match ← pyNext it with
      | none => pure (.done .next)
      | some v =>
        letOwnedTupleGo t1 it v
        assign t1 env v
        (do let v ← eval elt env; standAt elt.pos; let _ ← call (.builtin "set.add") [acc, v])
        again (.compLoop (sc elt t0 i0 t1 i1 scope pos) 1 it acc env)) := by rfl
/-- what the notes on a thing raised amount to here -/
abbrev NB (prog : Program) (w : World) (A : Around) (env : Env) (R : Result → Shared → Prop) : Value → Shared → Prop := notedBy (model prog w) A env fun e s' => R (.error e) s'
theorem loop0 (hs : ∀ x, foldedSetIterable i1 env x = pure x) (I : Nat → Shared → Prop)
    (turn : ∀ n s, I n s → wpAny (model prog w) A (pyNext it) (fun r s₁ => match r with
      | none => R (.ok .next) s₁
      | some v => wpAny (model prog w) A (letOwnedTupleGo t0 it v) (fun _ s₂ => wpAny (model prog w) A (assign t0 env v) (fun _ s₃ => wpAny (model prog w) A (eval i1 env) (fun x s₄ => wpAny (model prog w) A (pyIter x) (fun it1 s₅ =>
              codeAny (model prog w) A (.compStart (sc elt t0 i0 t1 i1 scope pos) 1 it1 acc env) (fun r s' => match r with
                | .ok _ => ∃ m, m < n ∧ I m s'
                | .error _ => False) s₅) (NB prog w A env R) s₄) (NB prog w A env R) s₃) (NB prog w A env R) s₂) (NB prog w A env R) s₁) (NB prog w A env R) s)
    (n : Nat) (h : I n s) : codeAny (model prog w) A (.compLoop (sc elt t0 i0 t1 i1 scope pos) 0 it acc env) R s := by
  refine codeAny_loop rfl I (fun n s hI => ?_) n h
  show wpAny _ A ((compTurn (sc elt t0 i0 t1 i1 scope pos) 0 it acc env).onRaise (fun x => do noteFrame x env; theTreesLotGoes x)) _ _ s
  refine wpAny_noted ?_
  rw [turn0]
  refine wpAny_bind (wpAny_standAt (wpAny_bind (wpAny_mono (turn n s hI) (fun r s₁ h₁ => ?_) fun _ _ h' => h')))
  cases r with
  | none => exact wpAny_pure h₁
  | some v =>
    refine wpAny_bind (wpAny_mono h₁ (fun _ s₂ h₂ => wpAny_bind (wpAny_mono h₂ (fun _ s₃ h₃ => wpAny_bind (wpAny_mono h₃ (fun x s₄ h₄ => ?_) fun _ _ h' => h')) fun _ _ h' => h')) fun _ _ h' => h')
    refine wpAny_bind (wpAny_standAt (wpAny_bind (wpAny_of_eq (hs x) (wpAny_bind (wpAny_holding (wpAny_mono h₄ (fun it1 s₅ h₅ => ?_) fun _ _ h' => h'))))))
    refine wpAny_bind (wpAny_runOwn ?_)
    rw [Around.mark_none]
    refine codeAny_mono h₅ fun r s' hr => ?_
    cases r with
    | ok f => exact wpAny_pure ⟨rfl, hr⟩
    | error e => exact hr.elim
theorem loop1 (I : Nat → Shared → Prop)
    (turn : ∀ n s, I n s → wpAny (model prog w) A (pyNext it) (fun r s₁ => match r with
      | none => R (.ok .next) s₁
      | some v => wpAny (model prog w) A (letOwnedTupleGo t1 it v) (fun _ s₂ => wpAny (model prog w) A (assign t1 env v) (fun _ s₃ => wpAny (model prog w) A (eval elt env) (fun x s₄ =>
              wpAny (model prog w) A (call (.builtin "set.add") [acc, x]) (fun _ s₅ => ∃ m, m < n ∧ I m s₅) (NB prog w A env R) s₄) (NB prog w A env R) s₃) (NB prog w A env R) s₂) (NB prog w A env R) s₁) (NB prog w A env R) s)
    (n : Nat) (h : I n s) : codeAny (model prog w) A (.compLoop (sc elt t0 i0 t1 i1 scope pos) 1 it acc env) R s := by
  refine codeAny_loop rfl I (fun n s hI => ?_) n h
  show wpAny _ A ((compTurn (sc elt t0 i0 t1 i1 scope pos) 1 it acc env).onRaise (fun x => do noteFrame x env; theTreesLotGoes x)) _ _ s
  refine wpAny_noted ?_
  rw [turn1]
  refine wpAny_bind (wpAny_standAt (wpAny_bind (wpAny_mono (turn n s hI) (fun r s₁ h₁ => ?_) fun _ _ h' => h')))
  cases r with
  | none => exact wpAny_pure h₁
  | some v =>
    refine wpAny_bind (wpAny_mono h₁ (fun _ s₂ h₂ => wpAny_bind (wpAny_mono h₂ (fun _ s₃ h₃ => ?_) fun _ _ h' => h')) fun _ _ h' => h')
    exact wpAny_bind (wpAny_bind (wpAny_mono h₃ (fun x s₄ h₄ => wpAny_bind (wpAny_standAt (wpAny_bind (wpAny_mono h₄ (fun _ s₅ h₅ => wpAny_pure (wpAny_pure ⟨rfl, h₅⟩)) fun _ _ h' => h')))) fun _ _ h' => h'))
theorem start1 (h0 : codeAny (model prog w) A (.compLoop (sc elt t0 i0 t1 i1 scope pos) 1 it acc env) R s)
    (h : wpAny (model prog w) A (pyIter it) (fun it' s' => codeAny (model prog w) A (.compLoop (sc elt t0 i0 t1 i1 scope pos) 1 it' acc env) R s') (NB prog w A env R) s) :
    codeAny (model prog w) A (.compStart (sc elt t0 i0 t1 i1 scope pos) 1 it acc env) R s := by
  refine codeAny_of_tree ?_
  show wpAny _ _ ((compStart (sc elt t0 i0 t1 i1 scope pos) 1 it acc env).onRaise (fun x => do noteFrame x env; standAt theWindowsPlace)) _ _ s
  refine wpAny_notedAt ?_
  unfold compStart
  show wpAny _ _ (ask >>= _) _ _ s
  refine wpAny_bind (wpAny_askSetting (wpAny_ite ?_))
  split
  · first
      | exact wpAny_bind (wpAny_pure (wpAny_pure (And.intro rfl h0)))
      | exact wpAny_pure (And.intro rfl h0)
  · first
      | exact wpAny_bind (wpAny_rule (wpAny_bind (wpAny_standAt (wpAny_bind (wpAny_mono h (fun it' s' h' => wpAny_pure (And.intro rfl h')) fun _ _ x => x)))))
      | (refine wpAny_bind (wpAny_rule ?_); show wpAny _ _ (standAt i1.pos >>= _) _ _ s; exact wpAny_bind (wpAny_standAt (wpAny_bind (wpAny_mono h (fun it' s' h' => wpAny_pure (And.intro rfl h')) fun _ _ x => x))))
end
/-! the set as a tracked thing: zs, all that was put in -/
def TxO (P : Program) (w : World) (a : Addr) (zs : List Str) : HO := .ext fun h => HoldsS P w a zs zs.length h
section
variable {X : Cx} {pins : List (Addr × Obj)} {σ : L2.St} {H : Hp} {s : Shared} {E : Value → Shared → Prop} {D : Addr} {zs : List Str}
theorem txO_ok {h : Heap} {P : Program} {w : World} {a : Addr} (x : HoldsS P w a zs zs.length h) : ObjOk P w H h a (TxO P w a zs) := by
  have ⟨_, _, t, _⟩ := x
  exact ⟨x, ⟨_, t.ob⟩, fun h1 h2 p k => holdsS_keep p k⟩
theorem txO_get (I : Inv X pins σ H s) (ha : H D = some (TxO X.prog X.w D zs)) : HoldsS X.prog X.w D zs zs.length s.heap := (I.hok D _ ha).1
theorem snoc {P : Program} {w : World} {h : Heap} {z : Str} (x : HoldsS P w D zs zs.length h) : HoldsS P w D (zs ++ [z]) zs.length h := by
  obtain ⟨l, T, a, m⟩ := x
  refine ⟨l, T, a, fun y => ?_⟩
  rw [m, List.take_append_of_le_length (Nat.le_refl _)]
theorem add_ok {z : Str} {u : Value} {Q : Value → Shared → Prop} (I : Inv X pins σ H s) (hD : H D = some (TxO X.prog X.w D zs)) (r : RelV (.str z) u) (room : zs.length + 2 < scanBound)
    (h : ∀ s', Inv X pins σ (upd H D (TxO X.prog X.w D (zs ++ [z]))) s' → Q .none s') : wpAny (model X.prog X.w) X.A (call (.builtin "set.add") [.ref D, u]) Q E s := by
  obtain ⟨t, rfl⟩ := r
  have x := txO_get I hD
  have tS : s.TypeIs (.ref D) "set" := by
    obtain ⟨_, _, y, _⟩ := x
    exact ⟨_, y.ob, rfl⟩
  refine wpAny_call_entry F.slot_set_add tS F.entry_set_add ?_ (F.args_set_add_2 _ _)
  unfold Builtin.«set.add» Builtin.Frozenset.oneOther
  simp only [List.isEmpty_nil, bind_assoc]
  unfold Builtin.Frozenset.addrOf
  refine wpAny_bind (wpAny_pure ?_)
  try dsimp only
  refine wpAny_bind (wpAny_pure ?_)
  try dsimp only
  refine wpAny_bind (holdsS_add (zs := zs ++ [z]) (i := zs.length) (by rw [List.length_append]; exact room) (by simp) (snoc x) fun b h' tk sb new le => ?_)
  show wpAny _ _ (ret Value.none) _ _ _
  have new' : HoldsS X.prog X.w D (zs ++ [z]) (zs ++ [z]).length h' := by
    have e : (zs ++ [z]).length = zs.length + 1 := by simp
    rw [e]
    exact new
  refine wpAny_pure ⟨_, rfl, h _ (I.write (e := D) (t' := tk) (by rw [hD]; trivial) (.inl rfl) (fun b u hb hu => (sb.2 b hb).trans hu) ?_ (txO_ok new'))⟩
  obtain ⟨_, _, y, _⟩ := new'
  exact ⟨_, y.ob⟩
end
end SC
set_option maxRecDepth 100000
set_option maxHeartbeats 4000000
/-! The set comprehension's run. -/
namespace SC
open PySem PySem.Spec PyProof.Rows L2 Tr PySem.W
/-- what a rule for a block's part has to say: in every state of the block -/
abbrev InBlk (X : Cx) (scope : Scope) (p : Cx → Prop) : Prop := ∀ (s : Shared) (H : Hp) (C : Addr) (cl : List (Str × Addr)) (fp : List Addr), p (X.blk s H scope (compEnvC scope cl C X.env) fp)
/-- the walk over the inner source, and over the outer; Qd: when all is done -/
def tSc2 (P : Program) (w : World) (wi : TI) (g : TG) (wi1 : TI) (g1 : TG) (te : TE) (vs vs1 : List Nat) (Qd : Addr → Hp → Prop) : L2.St → Hp → Prop := fun σ H => wi σ H fun J H1 => ∀ D, H1 D = none → ∃ W : Nat → Nat → Hp → Prop, (∃ m, W 0 m (upd H1 D (TxO P w D []))) ∧ ∀ i m H, W i m H →
  (J.stop i H ∧ Qd D H) ∨ (J.go i H ∧ ∃ Nx : Hp → Prop, (∀ H', Nx H' → ∃ m', m' < m ∧ W (i + 1) m' H') ∧ ∀ x H', J.yld i H x H' → g x (wipe σ vs) H' fun σ2 H2 => wipe σ2 vs = wipe σ vs ∧
    wi1 σ2 H2 fun J1 H4 => ∃ W1 : Nat → Nat → Hp → Prop, (∃ m, W1 0 m H4) ∧ ∀ j k H, W1 j k H →
      (J1.stop j H ∧ Nx H) ∨ (J1.go j H ∧ ∃ Nx1 : Hp → Prop, (∀ H', Nx1 H' → ∃ k', k' < k ∧ W1 (j + 1) k' H') ∧ ∀ x H', J1.yld j H x H' → g1 x (wipe σ2 vs1) H' fun σ3 H5 => wipe σ3 vs1 = wipe σ2 vs1 ∧
        te σ3 H5 fun y H7 => ∃ zs z, y = .str z ∧ H7 D = some (TxO P w D zs) ∧ zs.length + 2 < scanBound ∧ Nx1 (upd H7 D (TxO P w D (zs ++ [z])))))
section
variable {X : Cx}
theorem core {pins : List (Addr × Obj)} {s : Shared} {σ : L2.St} {H : Hp} {Qd : Addr → Hp → Prop} {elt tg iter tg1 iter1 : Expr} {scope : Scope} {own : List (Str × Nat)} {vs1 : List Nat} {pos pos' : Pos} {wi wi1 : TI} {g g1 : TG} {te : TE} {use : Option (Value → Sem Unit)} {Qf : Value → Shared → Prop}
    (hc : X.calm = true) (hN : X.N.Nodup) (I : Inv X pins σ H s) (hi : PI X tg iter wi) (ok : BlkOk X.N X.env.scope scope own) (hv : ∀ i ∈ vs1, i ∈ own.map (·.2))
    (hg : InBlk X scope fun Y => PG Y tg g) (he : InBlk X scope fun Y => PE Y elt te) (hs : ∀ x, foldedSetIterable iter X.env x = pure x) (hi1 : InBlk X scope fun Y => PI Y tg1 iter1 wi1) (hg1 : InBlk X scope fun Y => PG Y tg1 g1) (hs1 : ∀ env x, foldedSetIterable iter1 env x = pure x)
    (h : tSc2 X.prog X.w wi g wi1 g1 te (own.map (·.2)) vs1 Qd σ H)
    (hRR : ∀ D C s' m H', Inv X pins σ H' s' → Qd D H' → s'.heap.Ns C m → FpOk X pins H' C → compPost (model X.prog X.w) X.A X.xe use Qf (.ref D) C (.ok .next) s') :
    wpAny (model X.prog X.w) X.A (comprehension (sc elt tg iter tg1 iter1 scope pos) scope X.env pos' (newSet (.type "set")) false (eval iter X.env) use) Qf X.xe s := by
  have free : ∀ y ∈ scope.names, y.2 = .free → ∃ c, X.env.cells.lookup y.1 = some c := fun y hy e => (ok.free y hy e).elim (fun k => I.ok.has _ (.inl k)) fun k => I.ok.has _ (.inr k)
  refine wpAny_comprehension_free (use := use) rfl hs (closure_ok free) ok.kind (fun y hy e => by rw [ok.uniq y hy, e]) (thn (hi.run pins s σ H _ I h) fun xv s1 hx => thn hx fun itv s2 h2 => ?_)
  obtain ⟨it, fp, tn, J, H2, e, I2, T, st2, f2, q⟩ := h2
  subst e
  refine PpSet.newSet_ok (newEnv_comp ?_)
  generalize hD : s2.heap.objs.size = D
  obtain ⟨W, ⟨m0, w0⟩, turn⟩ := q D (I2.hok.fresh (Nat.le_of_eq hD))
  -- the new set
  generalize hs3 : ({ s2 with heap := s2.heap.push { cls := .type "set", dict := none, data := .set #[] 0 (.fresh 0 0 (!X.w.params.followText "set-order")) } } : Shared) = s3
  have h3 : s3.heap = s2.heap.push { cls := .type "set", dict := none, data := .set #[] 0 (.fresh 0 0 (!X.w.params.followText "set-order")) } := by rw [← hs3]
  have I3 : Inv X pins σ (upd H2 D (TxO X.prog X.w D [])) s3 := by
    rw [← hs3]
    refine I2.laid (t' := s2.toks) (fun b o e => Heap.get?_push_of_some _ e) (Nat.le_of_eq hD) (txO_ok (holdsS_new [] ?_))
    rw [← hD]
    exact Heap.get?_push_size _ rfl
  have f3 : ∀ b ∈ fp, FpOk X pins (upd H2 D (TxO X.prog X.w D [])) b ∧ b < s3.heap.objs.size := fun b hb => by
    obtain ⟨o, eo, _⟩ := T.obj _ _ st2 b hb
    have lt := Heap.lt_size eo
    refine ⟨⟨?_, (f2 b hb).2⟩, by rw [h3, Heap.size_push]; exact Nat.lt_succ_of_lt lt⟩
    rw [upd_ne (by rw [← hD]; exact Nat.ne_of_lt lt)]
    exact (f2 b hb).1
  have st3 : tn 0 s3.heap := T.keep _ _ _ st2 fun b _ o e => by rw [h3]; exact Heap.get?_push_of_some _ e
  have I4 := block_start I3 ok hN f3
  generalize hC : s3.heap.objs.size = C at I4 f3
  have inb : ∀ {p : Cx → Prop}, InBlk X scope p → p (X.blk s3 (upd H2 D (TxO X.prog X.w D [])) scope (compEnvC scope (cellsFrom (C + 1) scope.names (cloFrom X.env.cells scope.names [])) C X.env) fp) := fun k => k _ _ _ _ _
  have pg := inb hg
  have pe := inb he
  have pi1 := inb hi1
  have pg1 := inb hg1
  clear inb
  subst hC
  show codeAny _ _ (.compStart (sc elt tg iter tg1 iter1 scope pos) 0 (.ref it) (.ref D) (compEnvC scope (cellsFrom (s3.heap.objs.size + 1) scope.names (cloFrom X.env.cells scope.names [])) s3.heap.objs.size X.env)) (compPost (model X.prog X.w) X.A X.xe use Qf (.ref D) s3.heap.objs.size) { s3 with heap := pushCells (s3.heap.push { cls := .type "dict", data := .dict #[] }) scope.names }
  have nfp : ∀ b ∈ fp, (upd H2 D (TxO X.prog X.w D [])) b = none := fun b hb => (f3 b hb).1.1
  generalize hce : compEnvC scope (cellsFrom (s3.heap.objs.size + 1) scope.names (cloFrom X.env.cells scope.names [])) s3.heap.objs.size X.env = ce at I4 pg pe pi1 pg1 ⊢
  have cL : ce.locals = s3.heap.objs.size := by subst hce; rfl
  generalize hH3 : upd H2 D (TxO X.prog X.w D []) = H3 at I3 I4 pg pe pi1 pg1 w0 nfp f3
  generalize hs4 : ({ s3 with heap := pushCells (s3.heap.push { cls := .type "dict", data := .dict #[] }) scope.names } : Shared) = s4 at I4 ⊢
  have st4 : tn 0 s4.heap := T.keep _ _ _ st3 fun b _ o e => by rw [← hs4]; exact pushCells_keeps _ _ _ _ (Heap.get?_push_of_some _ e)
  have stat : ∀ {σ' : L2.St} {H' : Hp} {s' : Shared}, Inv (X.blk s3 H3 scope ce fp) [] σ' H' s' → (∀ b ∈ fp, H' b = none) → ∀ b ∈ fp, FpOk (X.blk s3 H3 scope ce fp) [] H' b := fun {σ' H' s'} I' hn b hb =>
    ⟨hn b hb, (I'.ok.exf b hb).1, I'.ok.exfs b hb, .inl hb, fun x c e => (I'.ok.exf b hb).2 x c e, fun p hp => absurd (show p ∈ ([] : List (Addr × Obj)) ++ [] from hp) (by simp)⟩
  let Mid : Nat → Shared → Prop := fun n s' => ∃ i H', Inv (X.blk s3 H3 scope ce fp) [] (wipe σ (own.map (·.2))) H' s' ∧ tn i s'.heap ∧ (∀ b ∈ fp, H' b = none) ∧ W i n H'
  have loop : codeAny (model X.prog X.w) X.A (.compLoop (sc elt tg iter tg1 iter1 scope pos) 0 (.ref it) (.ref D) ce) (compPost (model X.prog X.w) X.A X.xe use Qf (.ref D) s3.heap.objs.size) s4 := by
    refine loop0 (hs1 ce) Mid ?_ m0 ⟨0, H3, I4, st4, nfp, w0⟩
    rintro n s5 ⟨i, H5, I5, st5, n5, w5⟩
    rcases turn i n H5 w5 with ⟨stop, qq⟩ | ⟨go, Nx, hNx, step⟩
    · refine thnF (T.done (X.blk s3 H3 scope ce fp) rfl rfl rfl hc i [] s5 _ H5 (fun _ _ => False) I5 (stat I5 n5) st5 stop) fun r s6 ⟨hr, I6⟩ => ?_
      subst hr
      have I7 : Inv X pins σ H5 s6 := I3.call' (ch := fp) I6.os I6.base I6.hok I6.bare fun b hb => ⟨(f3 b hb).1.2.2.2.1, (f3 b hb).1.2.1, (f3 b hb).1.2.2.2.2.1, (f3 b hb).1.2.2.2.2.2⟩
      have nC : H5 ce.locals = none := I6.free
      obtain ⟨m, hn, _⟩ := I6.loc
      have hn : s6.heap.Ns ce.locals m := hn
      rw [cL] at hn nC
      exact hRR D s3.heap.objs.size s6 m H5 I7 qq hn (I3.fpOk (Nat.le_refl _) nC)
    · refine thnF (T.item (X.blk s3 H3 scope ce fp) rfl rfl rfl hc i [] s5 _ H5 (fun _ _ => False) I5 (stat I5 n5) st5 go) fun r s6 ⟨u, hr, h6⟩ => ?_
      subst hr
      refine thnF h6 fun _ s7 ⟨x, H7, I7, r7, y7, st7, n7⟩ => ?_
      refine thnF (pg.run _ s7 _ H7 x u _ (I7.pinned (stat I7 n7) (T.obj _ _ st7)) r7 (step x H7 y7)) fun _ s8 ⟨σ8, H8, I8, hw8, q8⟩ => ?_
      -- the turn's end
      have fin : ∀ {s' : Shared} {H' : Hp}, Inv (X.blk s3 H3 scope ce fp) ([] ++ pinsAt fp s7.heap) (wipe σ8 vs1) H' s' → Nx H' → ∃ m, m < n ∧ Mid m s' := fun {s' H'} I' nx => by
        obtain ⟨m', hm, w'⟩ := hNx H' nx
        have pin' : ∀ b ∈ fp, ∀ o, s7.heap.get? b = some o → s'.heap.get? b = some o ∧ H' b = none := fun b hb o e =>
          let z := I'.pin (b, o) (List.mem_append_right _ (List.mem_append_right _ (mem_pinsAt hb e)))
          ⟨z.1, z.2.1⟩
        refine ⟨m', hm, i + 1, H', (I'.unpinned (pins := [])).weak ?_ (fun j v e => ?_), T.keep _ _ _ st7 fun b hb o e => (pin' b hb o e).1, fun b hb => ?_, w'⟩
        · rw [← hw8, wipe_length, wipe_length]
        · rw [← hw8] at e
          obtain ⟨e1, e2⟩ := wipe_some e
          rw [wipe_out fun z => e2 (hv j z)]
          exact e1
        · obtain ⟨o, e, _⟩ := T.obj _ _ st7 b hb
          exact (pin' b hb o e).2
      refine thnF (pi1.run _ s8 σ8 H8 _ I8 q8) fun xv s10 hx => thnF hx fun itv s11 h11 => ?_
      obtain ⟨it1, fp1, tn1, J1, H11, e1, I11, T1, st11, f11, W1, ⟨m1, w1⟩, turn1⟩ := h11
      subst e1
      have stat1 : ∀ {H' : Hp}, (∀ b ∈ fp1, H' b = none) → ∀ b ∈ fp1, FpOk (X.blk s3 H3 scope ce fp) ([] ++ pinsAt fp s7.heap) H' b := fun hn b hb => ⟨hn b hb, (f11 b hb).2⟩
      let In : Nat → Shared → Prop := fun k s' => ∃ j H', Inv (X.blk s3 H3 scope ce fp) ([] ++ pinsAt fp s7.heap) (wipe σ8 vs1) H' s' ∧ tn1 j s'.heap ∧ (∀ b ∈ fp1, H' b = none) ∧ W1 j k H'
      have inner : codeAny (model X.prog X.w) X.A (.compLoop (sc elt tg iter tg1 iter1 scope pos) 1 (.ref it1) (.ref D) ce) (fun r s' => match r with
              | .ok _ => ∃ m, m < n ∧ Mid m s'
              | .error _ => False) s11 := by
        refine loop1 In ?_ m1 ⟨0, H11, I11.weak (wipe_length _ _) (fun j v e => (wipe_some e).1), st11, fun b hb => (f11 b hb).1, w1⟩
        rintro k s12 ⟨j, H12, I12, st12, n12, w12⟩
        rcases turn1 j k H12 w12 with ⟨stop1, nx1⟩ | ⟨go1, Nx1, hNx1, step1⟩
        · refine thnF (T1.done (X.blk s3 H3 scope ce fp) rfl rfl rfl hc j _ s12 (wipe σ8 vs1) H12 (fun _ _ => False) I12 (stat1 n12) st12 stop1) fun r s13 ⟨hr, I13⟩ => ?_
          subst hr
          exact fin I13 nx1
        · refine thnF (T1.item (X.blk s3 H3 scope ce fp) rfl rfl rfl hc j _ s12 (wipe σ8 vs1) H12 (fun _ _ => False) I12 (stat1 n12) st12 go1) fun r s13 ⟨u1, hr, h13⟩ => ?_
          subst hr
          refine thnF h13 fun _ s14 ⟨x1, H14, I14, r14, y14, st14, n14⟩ => ?_
          refine thnF (pg1.run _ s14 (wipe σ8 vs1) H14 x1 u1 _ (I14.pinned (stat1 n14) (T1.obj _ _ st14)) r14 (step1 x1 H14 y14)) fun _ s15 ⟨σ15, H15, I15, hw15, q15⟩ => ?_
          refine thnF (pe.run _ s15 σ15 H15 _ I15 q15) fun z s17 ⟨yv, H17, I17, r17, zs, yz, ey, hD17, hz17, nx⟩ => ?_
          subst ey
          refine add_ok (X := X.blk s3 H3 scope ce fp) I17 hD17 r17 hz17 fun s18 I18 => ?_
          obtain ⟨m', hm, w'⟩ := hNx1 _ nx
          have pin' : ∀ b ∈ fp1, ∀ o, s14.heap.get? b = some o → s18.heap.get? b = some o ∧ _ := fun b hb o e =>
            let z := I18.pin (b, o) (List.mem_append_right _ (List.mem_append_right _ (mem_pinsAt hb e)))
            ⟨z.1, z.2.1⟩
          refine ⟨m', hm, j + 1, _, I18.unpinned.weak (by rw [← hw15, wipe_length]) (fun j v e => by rw [← hw15] at e; exact (wipe_some e).1), T1.keep _ _ _ st14 fun b hb o e => (pin' b hb o e).1, fun b hb => ?_, w'⟩
          obtain ⟨o, e, _⟩ := T1.obj _ _ st14 b hb
          exact (pin' b hb o e).2
      exact start1 inner (T1.self X.A 0 _ _ _ st11 inner)
  exact PpSet.codeAny_compStart_set loop (T.self X.A 0 _ _ _ st4 loop)
end
end SC
set_option maxRecDepth 100000
set_option maxHeartbeats 4000000
/-! sorted({text for .. in .. for .. in ..}) as a rule and as trees. -/
namespace Tr
open PySem PySem.Spec PyProof.Rows L2 Tm PySem.W SC
section
variable {X : Cx}
def tSortSc2 (P : Program) (w : World) (K : PySem.W.Frag) (wi : TI) (g : TG) (wi1 : TI) (g1 : TG) (te : TE) (vs vs1 : List Nat) : TE := fun σ H Q =>
  tSc2 P w wi g wi1 g1 te vs vs1 (fun D H => ∃ zs : List Str, H D = some (TxO P w D zs) ∧ zs.length + 1 < 4096 ∧ ∀ ys : List Str, ys.Nodup → (∀ z, z ∈ ys ↔ z ∈ zs) → rSorted0 K (ys.map V.str) H Q) σ H
theorem pe_sortSc2 {elt tg iter tg1 iter1 : Expr} {scope : Scope} {own : List (Str × Nat)} {vs1 : List Nat} {pos p q : Pos} {wi wi1 : TI} {g g1 : TG} {te : TE} (hc : X.calm = true) (hu : X.A.units + 64 < cLine) (gs : Gl X "sorted") (ms : X.mg "sorted" = none) (hN : X.N.Nodup)
    (hi : PI X tg iter wi) (ok : BlkOk X.N X.env.scope scope own) (hv : ∀ i ∈ vs1, i ∈ own.map (·.2))
    (hg : InBlk X scope fun Y => PG Y tg g) (hi1 : InBlk X scope fun Y => PI Y tg1 iter1 wi1) (hg1 : InBlk X scope fun Y => PG Y tg1 g1) (he : InBlk X scope fun Y => PE Y elt te)
    (hs : ∀ x, foldedSetIterable iter X.env x = pure x := by intro _; rfl) (hs1 : ∀ env x, foldedSetIterable iter1 env x = pure x := by intro _ _; rfl) :
    PE X (.Call (.Name "sorted" p) [sc elt tg iter tg1 iter1 scope pos] [] q) (tSortSc2 X.prog X.w X.K wi g wi1 g1 te (own.map (·.2)) vs1) := by
  refine ⟨fun pins s σ H Q I h => ?_⟩
  refine Call_ (ld_blt I gs ms (by decide +kernel : bootBuiltins "sorted" = some (.builtin "sorted")) (PyProof.Rows.callWith_builtin1 (PyProof.Rows.args_cons ?_ rfl) rfl rfl))
  rw [PpSet.eval_SetComp]
  refine core hc hN I hi ok hv hg he hs hi1 hg1 hs1 h fun D C s' m H' I' ⟨zs, hD, few, q1⟩ hn f => ⟨m, hn, fun h'' sb => ?_⟩
  obtain ⟨f0, f1, f2, f3, f4, f5⟩ := f
  have I2 := I'.turned (t' := s'.toks) (fun b o hb e => (sb.2 b hb).trans e) f0 f1 f3 f4 f5
  refine PyProof.Rows.args_nil ?_
  refine Calls.call_function_entry PyProof.Rows.kind_sorted PyProof.Rows.plain_sorted PyProof.Rows.entry_sorted (PyProof.Rows.args_sorted1 _) ?_
  unfold Builtin.«sorted»
  refine wpAny_bind (m := checkCount "sorted" 1 1 _) (wpAny_pure ?_)
  refine wpAny_bind (collect_strs (A := X.A.in1) (I2.ok.hd hc) few (txO_get I2 hD) fun s3 ys out k g os nd mem ar => ?_)
  have J : Inv X pins σ H' s3 := I2.call' (ch := []) os (Un.kept k) (I2.hok.kept k) (by rw [g]; exact I2.bare) (fun b z => by cases z)
  have few2 : ys.length ≤ zs.length := List.Nodup.length_le_of_subset nd (l₂ := zs) fun y hy => (mem y).mp hy
  have len : out.length = ys.length := StrsAre.len_eq ar
  have sz : out.length ≤ sizeLine := by rw [sizeLine_eq]; omega
  refine wpAny_bind (wpAny_newList ?_ sz)
  have at2 : (s3.heap.push (PyProof.Rows.seqObj "list" out.toArray 0)).get? s3.heap.objs.size = some (PyProof.Rows.seqObj "list" out.toArray 0) := Heap.get?_push_size _ rfl
  refine wpAny_bind (wpAny_holding (wpAny_call_entry PyProof.Rows.slot_list_sort ⟨_, at2, rfl⟩ PyProof.Rows.entry_list_sort
    (sort_new (s := s3) J (vals_strs ar) (by show X.A.units + 1 + 1 + 62 < cLine; omega) (q1 ys nd mem) fun s2 ep' => ⟨_, rfl, wpAny_pure ⟨_, rfl, ep'⟩⟩) (PyProof.Rows.args_list_sort _)))
end
variable [Cl] [Tt]
section
variable {d : Option Addr} {te : TE} {me : ME} {wi wi1 : TI} {mi mi1 : MI} {g g1 : TG} {mg mg1 : MG} {is is1 : List Nat} {vs vs1 : List Nat} {pre : Option Nat} {P : Program} {w : World}
def mTxt (m : ME) : ME := fun σ k => m σ fun x => match x with
  | .str _ => k x
  | _ => false
def scGo1 (mg1 : MG) (me : ME) (σ0 : Sg) : List T → List T → (List T → Bool) → Bool
  | [], acc, k => k acc
  | t :: ts, acc, k => mg1 t σ0 fun σ2 => mTxt me σ2 fun y => decide (acc.length < 4000) && scGo1 mg1 me σ0 ts (acc ++ [y]) k
def scGo2 (mg : MG) (mi1 : MI) (mg1 : MG) (me : ME) (vs1 : List Nat) (σ0 : Sg) : List T → List T → (List T → Bool) → Bool
  | [], acc, k => k acc
  | t :: ts, acc, k => mg t σ0 fun σ2 => mi1 σ2 fun us => scGo1 mg1 me (mWipe σ2 vs1) us acc fun acc2 => scGo2 mg mi1 mg1 me vs1 σ0 ts acc2 k
/-- the texts, in the order in which they come -/
def mSc2 (mi : MI) (mg : MG) (mi1 : MI) (mg1 : MG) (me : ME) (vs vs1 : List Nat) : ME := fun σ k => mi σ fun ts => scGo2 mg mi1 mg1 me vs1 (mWipe σ vs) ts [] fun acc => k (.lst acc)
/-- no code object is a set of texts -/
theorem txO_code {D : Addr} {zs : List Str} {q : Str} (e : LamX.CodeO D q = TxO P w D zs) : False := by
  unfold LamX.CodeO TxO at e
  injection e with e
  have g : (⟨Array.replicate (D + 1) { cls := .none, data := .fields #[.none, .str q 0] }, {}⟩ : Heap).get? D = some { cls := .none, data := .fields #[.none, .str q 0] } := Heap.get?_some_iff.mpr ⟨by simp, rfl⟩
  have := congrFun e ⟨Array.replicate (D + 1) { cls := .none, data := .fields #[.none, .str q 0] }, {}⟩
  have h := Eq.mp this ⟨_, _, 0, g, rfl, rfl⟩
  obtain ⟨_, _, t, _⟩ := h
  have ob := t.ob
  rw [g] at ob
  cases ob
theorem tabs_set {Tb : List (Addr × Str)} {H : Hp} {D : Addr} {zs : List Str} {o : HO} (t : LamX.Tabs Tb H) (e : H D = some (TxO P w D zs)) : LamX.Tabs Tb (upd H D o) := fun x hx => by
  obtain ⟨ps, h1, h2, h3⟩ := t x hx
  refine ⟨ps, ?_, h2, fun pos cv hc => ?_⟩
  · rw [upd_ne (fun z => by rw [z, e] at h1; cases h1)]
    exact h1
  · obtain ⟨a, e1, e2⟩ := h3 pos cv hc
    refine ⟨a, e1, ?_⟩
    rw [upd_ne (fun z => by
      subst z
      rw [e] at e2
      exact txO_code (Option.some.inj e2).symm)]
    exact e2
/-- the set that grows -/
structure GrowS (P : Program) (w : World) (d : Option Addr) (F1 H1 : Hp) (D : Addr) (F H : Hp) (acc : List T) : Prop where
  up : Up d F1 H1 F H
  nf : F D = none
  at_ : ∃ zs, H D = some (TxO P w D zs) ∧ acc = zs.map T.str
theorem GrowS.step {F1 H1 F H F' H' : Hp} {D : Addr} {acc : List T} (v : Wd d F1 H1) (hD : H1 D = none) (gr : GrowS P w d F1 H1 D F H acc) (u : Up d F H F' H') : GrowS P w d F1 H1 D F' H' acc := by
  obtain ⟨zs, e, r⟩ := gr.at_
  exact ⟨gr.up.trans u v, by rw [u.fresh D (by rw [e]; exact fun z => nomatch z)]; exact gr.nf, zs, u.keep D _ (tape_nn v hD) (nt_ext _) e, r⟩
theorem GrowS.add {F1 H1 F H : Hp} {D : Addr} {acc : List T} {z : Str} {zs : List Str} (v : Wd d F1 H1) (hD : H1 D = none) (gr : GrowS P w d F1 H1 D F H acc) (e : H D = some (TxO P w D zs)) (r : acc = zs.map T.str) :
    GrowS P w d F1 H1 D F (upd H D (TxO P w D (zs ++ [z]))) (acc ++ [.str z]) := by
  have u := gr.up
  have c := tape_nn v hD
  refine ⟨⟨u.f, fun a x n nt e => ?_, fun a ha => there_upd a (u.there a ha), u.fresh, u.wd.dt, fun a x e => ?_, fun x hx => ?_, tabs_set u.wd.tabs e, u.wd.nt⟩, gr.nf, _, upd_same, by rw [r, List.map_append]; rfl⟩
  · rw [upd_ne (ne_of_none e hD)]
    exact u.keep a x n nt e
  · have : a ≠ D := fun z => by rw [z, gr.nf] at e; cases e
    rcases u.wd.sub a x e with z | ⟨ob, kvs, ee, z⟩
    · exact .is (by rw [upd_ne this]; exact z)
    · exact .lock ob kvs ee (by rw [upd_ne this]; exact z)
  · obtain ⟨⟨Dd, M, hd, tp⟩, t2⟩ := u.wd.tape x hx
    have : x ≠ D := fun z => c (by rw [← z]; exact hx)
    exact ⟨⟨Dd, M, by rw [upd_ne this]; exact hd, tp⟩, t2⟩
theorem cur_up {F4 H4 F H F' H' : Hp} (c : Cur d F4 H4 F H) (u : Up d F H F' H') : Cur d F4 H4 F' H' := ⟨c.le.trans u.f, u.wd, fun a ob o f h => by
  have : d ≠ some a := fun z => by
    have := (c.wd.tape a z).2
    rw [c.le _ _ f] at this
    cases this
  exact u.keep a _ this (nt_frz _ _) (c.lk a ob o f h)⟩
theorem drop_at {ts : List T} {i : Nat} {t : T} (h : i < ts.length) (e : ts[i]? = some t) : ts.drop i = t :: ts.drop (i + 1) := by
  rw [List.drop_eq_getElem_cons h]
  congr 1
  rw [List.getElem?_eq_getElem h] at e
  exact Option.some.inj e
def finS (k : T → Bool) (acc : List T) : Bool := match textsOf (.lst acc) with
  | some zs => decide (zs.length < 4000) && (fun r => strictD r && k (.lst r)) (sortD ((onceZ zs).map T.str))
  | none => false
theorem texts_map : ∀ zs : List Str, tstrs (zs.map T.str) = some zs
  | [] => rfl
  | z :: zs => by
    rw [List.map_cons]
    unfold tstrs
    rw [texts_map zs]
theorem sorted_once {F H F1 H1 : Hp} {k : T → Bool} {Q : VK} {zs : List Str} (w0 : Wd d F H) (u1 : Up d F H F1 H1) (q : ∀ p x F' H', Up d F H F' H' → H p = none → F' p = none → OwnAt F' H' p x → k x = true → Q (.ref p) H')
    (h0 : zs.length < 4000) (stri : strictD (sortD ((onceZ zs).map T.str)) = true) (hk2 : k (.lst (sortD ((onceZ zs).map T.str))) = true) (ys : List Str) (nd : ys.Nodup) (mem : ∀ z, z ∈ ys ↔ z ∈ zs) : rSorted0 Cl.K (ys.map V.str) H1 Q := by
  have few : ys.length ≤ zs.length := List.Nodup.length_le_of_subset nd (l₂ := zs) fun y hy => (mem y).mp hy
  have pm : (ys.map T.str).Perm ((onceZ zs).map T.str) := ((List.perm_ext_iff_of_nodup nd (onceZ_nodup zs)).mpr fun z => (mem z).trans onceZ_mem.symm).map T.str
  refine ⟨ys.map fun z => (V.str z, PyData.str z), by rw [List.map_map]; rfl, fun b hb => ?_, ?_, .inr (.inr ?_), fun b hb => ?_, by rw [List.length_map, sizeLine_eq]; omega, fun p hp => ?_⟩
  · obtain ⟨z, _, rfl⟩ := List.mem_map.mp hb
    exact .str z
  · rw [List.map_map]
    exact alike_strs ys
  · intro x hx
    rw [List.map_map] at hx
    obtain ⟨z, _, rfl⟩ := List.mem_map.mp hx
    exact ⟨(fun c => by cases c), (fun xs c => by cases c)⟩
  · obtain ⟨z, _, rfl⟩ := List.mem_map.mp hb
    exact Nat.zero_le _
  · have s1 : (((ys.map fun z => (V.str z, PyData.str z)).mergeSort (dataLe false (·.2))).map fun b => (match b.2 with | .str z => T.str z | _ => T.non)) = sortD ((onceZ zs).map T.str) := by
      rw [← sortD_same pm stri, sortD_eq]
      have := sort_maps (fun b : V × PyData => (match b.2 with | .str z => T.str z | _ => T.non)) (l := ys.map fun z => (V.str z, PyData.str z)) (r := dataLe false (·.2)) (s := leD) fun a ha b hb => by
        obtain ⟨y, _, rfl⟩ := List.mem_map.mp ha
        obtain ⟨z, _, rfl⟩ := List.mem_map.mp hb
        rfl
      rw [this, List.map_map]
      rfl
    have rr : RTs F1 (((ys.map fun z => (V.str z, PyData.str z)).mergeSort (dataLe false (·.2))).map (·.1)) (sortD ((onceZ zs).map T.str)) := by
      rw [← s1]
      have := zip_rts (F := F1) (cs := ((ys.map fun z => (V.str z, PyData.str z)).mergeSort (dataLe false (·.2))).map fun b => (b.1, (match b.2 with | .str z => T.str z | _ => T.non))) fun c hc => by
        obtain ⟨b, hb, rfl⟩ := List.mem_map.mp hc
        obtain ⟨z, _, rfl⟩ := List.mem_map.mp ((List.mergeSort_perm _ _).mem_iff.mp hb)
        exact .str z
      rwa [List.map_map, List.map_map] at this
    have u2 := up_new (o := .lst (((ys.map fun z => (V.str z, PyData.str z)).mergeSort (dataLe false (·.2))).map (·.1))) u1.wd hp
    exact q p _ F1 _ (u1.trans u2 w0) (none_back u1 w0 hp) (f_none u1.wd hp) (show OwnAt F1 (upd H1 p _) p (.lst _) from ⟨_, upd_same, rr⟩) hk2
theorem o_sortSc2 (hi : SI d none wi mi) (hg : SG d g mg is) (hs : (is.all fun i => decide (i ∈ vs)) = true) (hi1 : SI d none wi1 mi1) (hg1 : SG d g1 mg1 is1) (hs1 : (is1.all fun i => decide (i ∈ vs1)) = true) (he : SE d te me) :
    SO d (tSortSc2 P w Cl.K wi g wi1 g1 te vs vs1) (mSortSetS (mSc2 mi mg mi1 mg1 me vs vs1)) := by
  intro F H σ σ' st k hk Q q
  have hs' : ∀ i ∈ is, i ∈ vs := fun i h => of_decide_eq_true (List.all_eq_true.mp hs i h)
  have hs1' : ∀ i ∈ is1, i ∈ vs1 := fun i h => of_decide_eq_true (List.all_eq_true.mp hs1 i h)
  refine hi F H σ σ' st (fun _ z => nomatch z) _ hk _ fun J ts F1 H1 u1 wt h1 D hD => ?_
  obtain ⟨G, Y, wk, hG, hY⟩ := wt.ex
  have st1 := st.up u1
  have w1 := u1.wd
  have h1 : scGo2 mg mi1 mg1 me vs1 (mWipe σ' vs) ts [] (finS k) = true := h1
  refine turns wk (fun i H => ∃ F acc, GrowS P w d F1 H1 D F H acc ∧ scGo2 mg mi1 mg1 me vs1 (mWipe σ' vs) (ts.drop i) acc (finS k) = true) ⟨F1, [], ⟨up_new w1 hD, f_none w1 hD, [], upd_same, rfl⟩, by rw [List.drop_zero]; exact h1⟩ (fun i Hc _ ⟨Fc, acc, gr, _⟩ => hG Fc Hc (up_cur w1 gr.up)) ?_ ?_
  · rintro i x Hc Hn hi2 ⟨Fc, acc, gr, hk2⟩ y
    obtain ⟨Fn, t, et, un, rt⟩ := hY i Fc Hc x Hn (up_cur w1 gr.up) y
    have gn := gr.step w1 hD un
    rw [drop_at hi2 et] at hk2
    refine hg Fn Hn _ _ x t (((st1.up gr.up).up un).wiped vs) rt _ hk2 _ fun τ τ' n h2 => ⟨?_, ?_⟩
    · rw [n.wp vs hs', wipe_wipe]
    have no : NoOwn D τ' τ := (noOwn_new st1 hD).le (n.own.trans (ownLe_wipe vs))
    refine hi1 Fn Hn τ τ' n.st (fun _ z => nomatch z) _ h2 _ fun J1 us F4 H4 u4 wt1 h4 => ?_
    obtain ⟨G1, Y1, wk1, hG1, hY1⟩ := wt1.ex
    have g4 := gn.step w1 hD u4
    have w4 := u4.wd
    refine turns wk1 (fun j H => ∃ F acc, GrowS P w d F1 H1 D F H acc ∧ Sts d F H τ' τ ∧ Cur d F4 H4 F H ∧ scGo1 mg1 me (mWipe τ' vs1) (us.drop j) acc (fun acc2 => scGo2 mg mi1 mg1 me vs1 (mWipe σ' vs) (ts.drop (i + 1)) acc2 (finS k)) = true)
      ⟨F4, acc, g4, n.st.up u4, ⟨Le.refl _, w4, fun _ _ _ _ h => h⟩, by rw [List.drop_zero]; exact h4⟩ (fun j Hd _ ⟨Fd, ac, _, _, c, _⟩ => hG1 Fd Hd c) ?_ ?_
    · rintro j x2 Hd He hj ⟨Fd, ac, gd, sd, cd, hk5⟩ y2
      obtain ⟨Fe, t2, et2, ue, rt2⟩ := hY1 j Fd Hd x2 He cd y2
      have ge := gd.step w1 hD ue
      have se := sd.up ue
      have ce := cur_up cd ue
      rw [drop_at hj et2] at hk5
      refine hg1 Fe He _ _ x2 t2 (se.wiped vs1) rt2 _ hk5 _ fun ρ ρ' n2 h6 => ⟨?_, ?_⟩
      · rw [n2.wp vs1 hs1', wipe_wipe]
      refine he Fe He ρ ρ' n2.st _ h6 _ fun v z F8 H8 u8 r8 h8 => ?_
      split at h8
      · rename_i zt
        rw [Bool.and_eq_true, decide_eq_true_eq] at h8
        cases r8
        have g8 := ge.step w1 hD u8
        have s8 := se.up u8
        have c8 := cur_up ce u8
        obtain ⟨zs, e, r⟩ := g8.at_
        have ga := g8.add (z := zt) w1 hD e r
        have few : zs.length < 4000 := by
          have := h8.1
          rw [r, List.length_map] at this
          exact this
        refine ⟨zs, zt, rfl, e, by show zs.length + 2 < 4096; omega, F8, _, ga, s8.put ga.up.wd no, ⟨c8.le, ga.up.wd, fun a ob o f h => ?_⟩, h8.2⟩
        have : a ≠ D := fun z => by
          have := c8.le a _ f
          rw [z, g8.nf] at this
          cases this
        rw [upd_ne this]
        exact c8.lk a ob o f h
      · cases h8
    · rintro Hd ⟨Fd, ac, gd, sd, cd, hk5⟩
      rw [List.drop_length] at hk5
      exact ⟨Fd, ac, gd, hk5⟩
  · rintro Hc ⟨Fc, acc, gr, hk2⟩
    rw [List.drop_length] at hk2
    obtain ⟨zs, e, rfl⟩ := gr.at_
    have hk3 : finS k (zs.map T.str) = true := hk2
    unfold finS at hk3
    rw [show textsOf (.lst (zs.map T.str)) = some zs from texts_map zs] at hk3
    dsimp only at hk3
    rw [Bool.and_eq_true, Bool.and_eq_true, decide_eq_true_eq] at hk3
    exact ⟨zs, e, by omega, fun ys nd mem => sorted_once st.wd (u1.trans gr.up st.wd) q hk3.1 hk3.2.1 hk3.2.2 ys nd mem⟩
end
end Tr
set_option maxRecDepth 100000
set_option maxHeartbeats 4000000
/-! sum(t), t a tuple of ints; len(d), d a dict. -/
namespace Tr
open PySem PySem.Spec PyProof.Rows L2 Tm
section
variable {prog : Program} {w : World} {A : Around} {E : Value → Shared → Prop} {s : Shared} {l : Addr}
theorem sum_intTup {xs : Array (Int × Tok)} {Q : Value → Shared → Prop} (hh : A.handled = none) (hl : s.heap.IsTuple l (intItems xs))
    (h : ∀ h' tk t', (∀ b o, s.heap.get? b = some o → h'.get? b = some o) → Q (.int (preSum (numAt xs) xs.size) t') { s with heap := h', toks := tk }) :
    wpAny (model prog w) A (call (.builtin "sum") [.ref l]) Q E s := by
  have lt : l < s.heap.objs.size := by obtain ⟨_, e, _⟩ := hl; exact Heap.lt_size e
  refine call_sum_walkG (wpAny_pyIter_tuple hl ?_)
  refine ⟨s.heap.objs.size, _, _, _, _, _, numAt xs, rfl, Walks.tuple (A := A.in1) hh _ l (Nat.ne_of_lt lt) (intItems xs), ⟨⟨_, Heap.get?_push_size _ rfl, rfl, rfl⟩, hl.push _⟩, fun b hb => ?_, fun _ _ => intItems_at, fun h' tk t' hk => ?_⟩
  · show b < (s.heap.push _).objs.size
    rw [Heap.size_push]
    simp only [List.mem_cons, List.not_mem_nil, or_false] at hb
    rcases hb with rfl | rfl
    · exact Nat.lt_succ_self _
    · exact Nat.lt_succ_of_lt lt
  · have := h h' tk t' fun b o e => hk b o (fun z => by
      simp only [List.mem_singleton] at z
      exact absurd (Heap.lt_size e) (by rw [z]; exact Nat.lt_irrefl _)) (Heap.get?_push_of_some _ e)
    simpa [intItems] using this
theorem sum_tup {its : List Value} {ns : List Int} {Q : Value → Shared → Prop} (hh : A.handled = none) (hl : s.heap.IsTuple l its.toArray) (hi : IntsAre its ns)
    (h : ∀ h' tk t', (∀ b o, s.heap.get? b = some o → h'.get? b = some o) → Q (.int ns.sum t') { s with heap := h', toks := tk }) : wpAny (model prog w) A (call (.builtin "sum") [.ref l]) Q E s := by
  obtain ⟨xs, e⟩ := hi.allInts.items
  have hn : numsOf (intItems xs).toList = ns := by rw [← e]; exact hi.numsOf
  rw [nums_intItems] at hn
  rw [e] at hl
  refine sum_intTup hh hl fun h' tk t' hk => ?_
  have := h h' tk t' hk
  rw [preSum_eq, List.take_of_length_le (by simp), hn]
  exact this
end
section
variable {X : Cx}
def rSumT (K : PySem.W.Frag) : List V → Hp → VK → Prop := fun vs H Q => ∃ (a : Addr) (ns : List Int), vs = [V.ref a] ∧ SqT K H a (ns.map V.int) ∧ Q (.int ns.sum) H
theorem cr_sumT (hc : X.calm = true) : CallR X (.builtin "sum") (rSumT X.K) := by
  intro pins s σ H vs us Q I r h
  obtain ⟨a, ns, rfl, hs, q⟩ := h
  obtain ⟨its, rv, hl, _⟩ := I.tuple hs
  rw [Vals.ref1 r]
  exact sum_tup (I.ok.hd hc) hl rv.ints fun h' tk t' hk => ⟨.int _, H, I.kept hk, ⟨_, rfl⟩, q⟩
def rLenD : List V → Hp → VK → Prop := fun xs H Q => ∃ a kvs, xs = [V.ref a] ∧ Rd H a (.dK kvs) ∧ Q (.int kvs.length) H
theorem cr_lenD : CallR X (.builtin "len") rLenD := by
  intro pins s σ H xs us Q I r h
  obtain ⟨a, kvs, rfl, ha, q⟩ := h
  obtain ⟨u, rfl, ru⟩ := vals1 r
  cases ru
  exact d_len I ha fun t s' I' => ⟨.int kvs.length, H, I', ⟨t, rfl⟩, q⟩
end
section
variable [Cl] [Tt] {d : Option Addr}
def bLenD : B1 := fun xs k => match xs with
  | [.dic kts] => k (.int kts.length)
  | _ => false
theorem bs_lenD : BS d rLenD bLenD := by
  intro F H vs xs wd r k hk Q q
  unfold bLenD at hk
  split at hk
  · obtain ⟨v, rfl, r1⟩ := rts1 r
    cases r1 with
    | dic f r => exact ⟨_, _, rfl, rd_dic wd f, q _ _ F H (Up.refl wd) (.int _) (by rw [r.len]; exact hk)⟩
  · cases hk
def bSumT : B1 := fun xs k => match xs with
  | [.tup ts] => match tints ts with
    | some bs => k (.int bs.sum)
    | none => false
  | _ => false
theorem bs_sumT : BS d (rSumT Cl.K) bSumT := by
  intro F H vs xs wd r k hk Q q
  unfold bSumT at hk
  split at hk
  · obtain ⟨v, rfl, r1⟩ := rts1 r
    split at hk
    · rename_i bs e
      cases r1 with
      | tup f r => exact ⟨_, bs, rfl, by rw [← tints_ok r e]; exact rd_sqt wd f, q _ _ F H (Up.refl wd) (.int _) hk⟩
    · cases hk
  · cases hk
end
end Tr
set_option maxRecDepth 100000
set_option maxHeartbeats 4000000
/-! != of instances whose class has its own == and object's !=. -/
namespace Tr
open PySem PySem.Spec PyProof.Rows L2 Tm
section
variable {X : Cx}
structure NeX (K : PySem.W.Frag) (C : Addr) : Prop where
  ne : PySem.W.findIn K (.ref C) "__ne__" = some (some (.builtin "object.__ne__"))
  top : PySem.W.mroIn K C (.type "object") = some true
theorem slot_one : Slot "object" "__ne__" "object.__ne__" := Slot.of (T := "object") (name := "__ne__") (owner := "object") (n := "__ne__") (by rw [typeLookup_type, builtinLookup_eq_fast]; kernel_rfl) (by decide +kernel) (by decide +kernel) (by decide +kernel)
    (.inl (by decide +kernel)) (by rw [isSubtype_type]; kernel_rfl)
/-- object.__ne__ of an instance: its own ==, turned -/
theorem ne_entry {K : PySem.W.Frag} {prog : Program} {w : World} {A : Around} {E : Value → Shared → Prop} {s : Shared} {a C f : Addr} {b : Value} {o1 : Obj} {od : Option Obj} (kin : K.In s.heap) (I : PySem.W.InstAt s.heap a o1 C od) (hu : A.units < cLine)
    (isEq : PySem.W.findIn K (.ref C) "__eq__" = some (some (.ref f))) (isF : PySem.W.isFn K (.ref f) = true) {Q : Fin → Shared → Prop}
    (h : wpAny (model prog w) A (call (.ref f) [.ref a, b]) (fun v s' => ∃ r, v = .bool r ∧ Q (.done (.ret (.bool (!r)))) s') E s) : wpAny (model prog w) A (Builtin.«object.__ne__» ⟨[.ref a, b], []⟩) Q E s := by
  unfold Builtin.«object.__ne__»
  repeat (first
    | with_reducible refine wpAny_cRoomFor hu ?_
    | (refine wpAny_bind (m := callSpecialIfBound? (.ref a) (Str.ofString "__eq__") [b])
        (PySem.W.ifBound_K kin I isEq isF (wpAny_mono h (fun r s' hr => by
          obtain ⟨b, rfl, hq⟩ := hr
          repeat (first | exact hq | exact wpAny_pure hq | exact wpAny_truthy_bool hq | (refine wpAny_bind (m := truthy (.bool _)) (wpAny_truthy_bool ?_)) | wp_step)) fun _ _ e => e)))
    | wp_step)
theorem try_ne {K : PySem.W.Frag} {prog : Program} {w : World} {A : Around} {E : Value → Shared → Prop} {s : Shared} {a C f : Addr} {b : Value} {o1 : Obj} {od : Option Obj} (kin : K.In s.heap) (I : PySem.W.InstAt s.heap a o1 C od) (hu : A.units + 1 < cLine) (N : NeX K C)
    (isEq : PySem.W.findIn K (.ref C) "__eq__" = some (some (.ref f))) (isF : PySem.W.isFn K (.ref f) = true) {Q : Option Value → Shared → Prop}
    (h : wpAny (model prog w) A.in1 (call (.ref f) [.ref a, b]) (fun v s' => ∃ r, v = .bool r ∧ Q (some (.bool (!r))) s') E s) : wpAny (model prog w) A (tryCompare (.ref a) "__ne__" b) Q E s := by
  have sub : PySem.W.Looks (model prog w) s.heap (isInstance (.ref a) (.type "object")) true := I.type.andThen (PySem.W.looks_mroIn kin N.top)
  have run : wpAny (model prog w) A (call (.builtin "object.__ne__") [.ref a, b]) (fun v s' => Q (some v) s' ∧ ∃ r, v = .bool r) E s := by
    refine wpAny_call (codeAny_call_builtin slot_one.plain F.cmpEntry_ne (PySem.W.check_slot F.cmpKind_ne F.cmpSplit_ne sub (F.cmpArgs_ne _ _) (ne_entry (A := A.in1) kin I hu isEq isF (wpAny_mono h (fun v s' hv => ?_) fun _ _ e => e))))
    obtain ⟨r, rfl, q⟩ := hv
    exact ⟨r, rfl, q, !r, rfl⟩
  have two : wpAny (model prog w) A (callSpecialIfBound? (.ref a) "__ne__" [b]) (fun v s' => ∃ r, v = some (.bool r) ∧ Q v s') E s := by
    simp only [callSpecialIfBound?, bindSpecialIfBound?]
    refine wpAny_holding (wpAny_bind (wpAny_bind (wpAny_bind (I.type.here ((PySem.W.looks_findIn kin N.ne).here ?_)))))
    refine wpAny_bind (wpAny_askSetting (wpAny_ite ?_))
    have fin : wpAny (model prog w) A (call (.builtin "object.__ne__") ([.ref a] ++ [b]) >>= fun v => pure (some v)) (fun v s' => ∃ r, v = some (.bool r) ∧ Q v s') E s :=
      wpAny_bind (wpAny_mono run (fun v s' ⟨q, r, e⟩ => wpAny_pure ⟨r, by rw [e], q⟩) fun _ _ h' => h')
    rw [slot_one.bind]
    split
    · exact wpAny_bind (wpAny_pure (wpAny_pure fin))
    · exact wpAny_tryCatch (wpAny_bind (wpAny_pure (wpAny_pure fin)))
  unfold tryCompare
  refine wpAny_bind (wpAny_mono two (fun v s' ⟨r, e, q⟩ => ?_) fun _ _ e => e)
  subst e
  exact wpAny_pure q
def rOwnNe (C : Addr) (sp : Sp) : R2 := fun x y H Q => ∃ a b dx dy fs gs, x = V.ref a ∧ y = V.ref b ∧ H a = some (.ins C dx fs) ∧ H b = some (.ins C dy gs) ∧ sp [.ref a, .ref b] H (fun v H' => ∃ r, v = .bl r ∧ Q (.bl (!r)) H') C8.E0
theorem op_neOwn {j k : Nat} {C : Addr} {sp : Sp} (M : EqM X.prog X.w X.K X.mg X.base k C sp) (N : NeX X.K C) (room : Room j X.A) (le : k + 1 ≤ j) : OpR X (compareOp .NotEq) (rOwnNe C sp) := by
  intro pins s σ H x y v u Q I rx ry h
  obtain ⟨f, fd, ps, F, isEq, isF, bind⟩ := M.ex
  obtain ⟨a, b, dx, dy, fs, gs, rfl, rfl, h1, h2, told⟩ := h
  cases rx
  cases ry
  show wpAny (model X.prog X.w) X.A (richCompare .NotEq (.ref a) (.ref b)) _ _ s
  obtain ⟨m1, O1, _⟩ := ins_get I.hok h1
  obtain ⟨m2, O2, _⟩ := ins_get I.hok h2
  obtain ⟨o1, L1, _⟩ := O1.look
  obtain ⟨o2, L2', _⟩ := O2.look
  obtain ⟨m, fr⟩ := I.fr
  have kin := I.ok.mod.kin.keeps fr.keep
  have two : Vals [V.ref a, V.ref b] [Value.ref a, Value.ref b] := .cons rfl (.cons rfl .nil)
  have many := F.len _ _ _ _ told
  have hu1 : X.A.units + 1 < cLine := by have := room.units; omega
  have one : wpAny (model X.prog X.w) X.A (tryCompare (.ref a) "__ne__" (.ref b)) (fun r s' => ∃ v, r = some v ∧ EP X pins σ Q v s') X.xe s := by
    refine try_ne kin L1 hu1 N isEq isF ?_
    refine wpAny_call (codeAny_mono (F.run X.A.in1 X.stack s H ⟨[.ref a, .ref b], []⟩ [.ref a, .ref b] [.ref a, .ref b] _ C8.E0 ((room.mono le).in1) I.env0.in1 (by
      have q := bind s [.ref a, .ref b] I.kIn (by simpa using many)
      simpa using q) two told) fun r s' got => ?_)
    cases r with
    | error e => exact C8.pass0 (E := C8.E0) pins σ H s e s' I got
    | ok flow =>
      cases flow with
      | next => exact False.elim got
      | brk => exact False.elim got
      | cont => exact False.elim got
      | ret w =>
        obtain ⟨z, H', I', rz, r, ez, q⟩ := I.after got
        subst ez
        cases rz
        exact ⟨r, rfl, _, rfl, .bl (!r), H', I', rfl, q⟩
  unfold richCompare
  simp only [oneThing_ref]
  refine wpAny_holding (wpAny_bind (wpAny_cRoomFor room.units0 ?_))
  rw [cmpInfo_NotEq]
  dsimp only
  refine wpAny_bind (L1.type.here (wpAny_bind (L2'.type.here ?_)))
  rw [show (Value.ref C != Value.ref C) = false from by simp]
  simp only [Bool.false_eq_true, if_false]
  refine wpAny_bind (wpAny_pure ?_)
  simp only [Bool.false_eq_true, if_false]
  refine wpAny_bind (wpAny_mono one (fun r s' hr => ?_) fun _ _ e => e)
  obtain ⟨v, rfl, hq⟩ := hr
  exact wpAny_pure hq
end
variable [Cl] [Tt]
section
variable {d : Option Addr}
def oOwnNe (C : Nat) (f : Fn) : O2 := fun x y k => match x, y with
  | .ins c _, .ins c' _ => decide (c = C) && (decide (c' = C) && f [x, y] fun z => match z with
    | .bl b => k (.bl (!b))
    | _ => false)
  | _, _ => false
theorem os_ownNe {C : Nat} {f : Fn} : OpS d (rOwnNe (Cl.ad C) (spT 2 f)) (oOwnNe C f) := by
  intro F H v w x y wd rx ry k hk Q q
  unfold oOwnNe at hk
  split at hk
  · rename_i c fs c' gs
    rw [Bool.and_eq_true, Bool.and_eq_true, decide_eq_true_eq, decide_eq_true_eq] at hk
    obtain ⟨rfl, e2, hk⟩ := hk
    subst e2
    have ed := wd.dt
    subst ed
    cases rx with
    | ins e1 r1 =>
      cases ry with
      | ins e2 r2 =>
        refine ⟨_, _, _, _, _, _, rfl, rfl, rd_ins wd e1, rd_ins wd e2, inferInstance, F, _, wd, .cons (.ins e1 r1) (.cons (.ins e2 r2) .nil), rfl, _, hk, fun v t F' H' u r h => ?_⟩
        split at h
        · cases r
          exact ⟨_, rfl, q _ _ F' H' u (.bl _) h⟩
        · cases h
  · cases hk
end
end Tr
set_option maxRecDepth 100000
set_option maxHeartbeats 4000000
/-! Defs with keyword-only parameters: f(e, .., k = v). -/
namespace Tr
open PySem PySem.Spec PyProof.Rows L2 Tm
structure DefK (K : PySem.W.Frag) (mg : Str → Option Value) (x : Str) (st : Stmt) (kws : List (Str × V)) : Prop where
  ex : ∃ f fd, C8.Fun K x x st f fd ∧ FunD K x x (C8.fnArgs st) (C8.fnBody st) (C8.fnScope st) [] kws f fd ∧ mg x = some (.ref f) ∧ PySem.W.keepIn K (.ref f) = true
theorem defk_of {K : PySem.W.Frag} {h : Heap} {mg : Str → Option Value} {f D : Addr} {x q : Str} {st : Stmt} {od an : Option Addr} {sl : Array (Option Value)} {oc dc pm cd ct : Value} (X : K.In h) (G : h.Ns mainGlobals mg)
    (a : PySem.W.nsIn K mainGlobals x = some (some (.ref f))) (k : PySem.W.keepIn K (.ref f) = true)
    (l : K.lookup f = some ⟨oc, od, .func (PySem.W.fnOf x x (C8.fnArgs st) (C8.fnBody st) (C8.fnScope st) .none (.ref D) dc pm an cd ct), sl⟩) (c : PySem.W.codeIn K cd x = true)
    (nq : PySem.W.nsIn K D q = some (some .none)) : DefK K mg x st [(q, .non)] :=
  ⟨f, _, ⟨oc, od, .none, .ref D, dc, pm, an, cd, ct, sl, rfl, l, c⟩, ⟨⟨oc, od, .none, .ref D, dc, pm, an, cd, ct, sl, rfl, l, c, .inl ⟨rfl, rfl⟩, .inr ⟨D, rfl, fun p hp => by
    rw [List.mem_singleton] at hp
    rw [hp]
    exact ⟨.none, nq, rfl⟩⟩⟩, k⟩, PySem.W.mg_of X G a, k⟩
structure CalN (P : Program) (w : World) (K : PySem.W.Frag) (mg : Str → Option Value) (base : Heap) (k : Nat) (x : Str) (n : Nat) (ks : List Str) (sp : Sp) : Prop where
  ex : ∃ (f : Addr) (fd : FuncData) (ps : List Str) (g : List Value → List Value → List Value), FnOk P w K mg base C8.CX0 k f fd ps sp ∧ mg x = some (.ref f) ∧ PySem.W.keepIn K (.ref f) = true ∧ KBn K fd ps n ks g (fun vs zs => vs ++ zs)
section
variable {X : Cx} {k j n : Nat} {x : Str} {sp : Sp} {p pos : Pos} {e : Expr} {es : List Expr} {kws : List Keyword} {ks : List Str} {t tk : TA}
theorem pe_cN (c : CalN X.prog X.w X.K X.mg X.base k x n ks sp) (hr : Room j X.A) (hk : k ≤ j) (hg : Gl X x) (ha : PA X (e :: es) t) (hkw : PK X kws tk)
    (hall : (backToKw pos (keywordEach kws X.env)).all (·.1.isSome) = true := by rfl) (hks : (backToKw pos (keywordEach kws X.env)).filterMap (·.1) = ks := by rfl) (hdb : (x == ("__debug__" : Str)) = false := by decide)
    (he : starEach (e :: es) X.env = (false, eval e X.env) :: starEach es X.env := by rfl) (hpl : ((backTo pos (starEach (e :: es) X.env)).any (·.1) || (backToKw pos (keywordEach kws X.env)).any (·.1.isNone)) = false := by rfl) :
    PE X (.Call (.Name x p) (e :: es) kws pos) (tCallN n ks.length sp (fun vs zs => vs ++ zs) C8.E0 t tk) := by
  obtain ⟨f, fd, ps, g, F, hm, kp, b⟩ := c.ex
  exact pe_callN F (hr.mono hk) hg hm kp b C8.pass0 ha hkw hall hks hdb he hpl
end
variable [Cl] [Tt]
def mCallN (n l : Nat) (f : Fn) (m mk : MA) : ME := fun σ k => m σ fun xs => mk σ fun ys => decide (xs.length = n) && (decide (ys.length = l) && f (xs ++ ys) k)
section
variable {d : Option Addr} {n l : Nat} {f : Fn} {t tk : TA} {m mk : MA}
theorem s_callN (h : SA d t m) (hk : SA d tk mk) : SE d (tCallN n l (spT (n + l) f) (fun vs zs => vs ++ zs) C8.E0 t tk) (mCallN n l f m mk) := by
  intro F H σ σ' st k hkk Q q
  refine h F H σ σ' st _ hkk _ fun vs xs F1 H1 u1 r1 h1 => ?_
  refine hk F1 H1 σ σ' (st.up u1) _ h1 _ fun ws ys F2 H2 u2 r2 h2 => ?_
  rw [Bool.and_eq_true, Bool.and_eq_true, decide_eq_true_eq, decide_eq_true_eq] at h2
  obtain ⟨e1, e2, h2⟩ := h2
  have r1' := r1.mono u2.f
  have u12 := u1.trans u2 st.wd
  have e := st.wd.dt
  subst e
  exact ⟨r1.len.trans e1, r2.len.trans e2, inferInstance, F2, _, u2.wd, r1'.append r2, by rw [List.length_append, e1, e2], k, h2, fun v t F3 H3 u3 r3 h3 => q v t F3 H3 (u12.trans u3 st.wd) r3 h3⟩
theorem o_callN (h : SA d t m) (hk : SA d tk mk) : SO d (tCallN n l (spO (n + l) f) (fun vs zs => vs ++ zs) C8.E0 t tk) (mCallN n l f m mk) := by
  intro F H σ σ' st k hkk Q q
  refine h F H σ σ' st _ hkk _ fun vs xs F1 H1 u1 r1 h1 => ?_
  refine hk F1 H1 σ σ' (st.up u1) _ h1 _ fun ws ys F2 H2 u2 r2 h2 => ?_
  rw [Bool.and_eq_true, Bool.and_eq_true, decide_eq_true_eq, decide_eq_true_eq] at h2
  obtain ⟨e1, e2, h2⟩ := h2
  have r1' := r1.mono u2.f
  have u12 := u1.trans u2 st.wd
  have e := st.wd.dt
  subst e
  refine ⟨r1.len.trans e1, r2.len.trans e2, inferInstance, F2, _, u2.wd, r1'.append r2, by rw [List.length_append, e1, e2], k, h2, fun p t F3 H3 u3 n1 n2 o h3 => q p t F3 H3 (u12.trans u3 st.wd) (none_back u12 st.wd n1) n2 o h3⟩
end
end Tr
namespace Tr
open PySem PySem.Spec PyProof.Rows L2 Tm
/-- a def that is bound under another name -/
structure DefY (K : PySem.W.Frag) (mg : Str → Option Value) (x q : Str) (st : Stmt) : Prop where
  ex : ∃ f fd, C8.Fun K q q st f fd ∧ fd.defaults = .none ∧ mg x = some (.ref f) ∧ PySem.W.keepIn K (.ref f) = true
theorem defy_of {K : PySem.W.Frag} {h : Heap} {mg : Str → Option Value} {x q : Str} {st : Stmt} {f : Addr} {od an : Option Addr} {sl : Array (Option Value)} {oc kV dc pm cd ct : Value} (X : K.In h) (G : h.Ns mainGlobals mg)
    (a : PySem.W.nsIn K mainGlobals x = some (some (.ref f))) (l : K.lookup f = some ⟨oc, od, .func (PySem.W.fnOf q q (C8.fnArgs st) (C8.fnBody st) (C8.fnScope st) .none kV dc pm an cd ct), sl⟩) (c : PySem.W.codeIn K cd q = true) (k : PySem.W.keepIn K (.ref f) = true) : DefY K mg x q st :=
  ⟨f, _, ⟨oc, od, .none, kV, dc, pm, an, cd, ct, sl, rfl, l, c⟩, rfl, PySem.W.mg_of X G a, k⟩
theorem gs_of {K : PySem.W.Frag} {h : Heap} {mg : Str → Option Value} {x z : Str} {t : Tok} (X : K.In h) (G : h.Ns mainGlobals mg) (a : PySem.W.nsIn K mainGlobals x = some (some (.str z t))) : ∃ u, mg x = some u ∧ RelV (.str z) u :=
  ⟨_, PySem.W.mg_of X G a, t, rfl⟩
end Tr
set_option maxRecDepth 100000
set_option maxHeartbeats 4000000
/-! sorted(d), d a dict whose keys are texts. -/
namespace Tr
open PySem PySem.Spec PyProof.Rows L2 Tm PySem.W
section
variable {X : Cx}
def rSortK (K : PySem.W.Frag) : List V → Hp → VK → Prop := fun vs H Q => ∃ (a : Addr) (kvs : List (L2.Key × V)), vs = [.ref a] ∧ Rd H a (.dK kvs) ∧ rSorted0 K (kvs.map fun kv => kV kv.1) H Q
theorem keys_vals {kvs : List (L2.Key × V)} {vs : List (L2.Key × Value)} {acc : List Value} (rel : KV kvs vs) (len : acc.length = vs.length) (h : ∀ (i : Nat) v, acc[i]? = some v → ∃ k x, vs[i]? = some (k, x) ∧ keyIs k v = true) : Vals (kvs.map fun kv => kV kv.1) acc := by
  induction rel generalizing acc with
  | nil =>
    cases acc with
    | nil => exact .nil
    | cons _ _ => cases len
  | cons r t ih =>
    cases acc with
    | nil => cases len
    | cons v acc =>
      obtain ⟨k, x, e, kx⟩ := h 0 v rfl
      simp at e
      rw [List.map_cons]
      refine .cons ?_ (ih (by simpa using len) fun i u hu => ?_)
      · rw [r.1]
        rw [e]
        exact relV_key kx
      · obtain ⟨k, x, e, kx⟩ := h (i + 1) u (by simpa using hu)
        exact ⟨k, x, by simpa using e, kx⟩
theorem cr_sortK (hc : X.calm = true) (hu : X.A.units + 64 < cLine) : CallR X (.builtin "sorted") (rSortK X.K) := by
  intro pins s σ H xs us Q I r h
  obtain ⟨a, kvs, rfl, ha, q⟩ := h
  obtain rfl := Vals.ref1 r
  obtain ⟨z, ns, vs, rel, dd⟩ := dk_rd I.hok ha
  have lk : kvs.length = vs.length := Paired.length rel
  obtain ⟨ep, hat⟩ := dd.dictAt
  refine Calls.call_function_entry PyProof.Rows.kind_sorted PyProof.Rows.plain_sorted PyProof.Rows.entry_sorted (PyProof.Rows.args_sorted1 _) ?_
  unfold Builtin.«sorted»
  refine wpAny_bind (m := checkCount "sorted" 1 1 _) (wpAny_pure ?_)
  refine wpAny_bind (PySem.W.kdu_collect (A := X.A.in1) (PySem.W.kdl_dict (knd := mixKind X.prog X.w) (kvs := vs) (ep := ep) ns) (I.ok.hd hc) hat (by omega) fun h' tk acc up its => ?_)
  have J : Inv X pins σ H { s with heap := h', toks := tk } := I.kept up
  have rv : Vals (kvs.map fun kv => kV kv.1) acc.toList := keys_vals rel (by rw [Array.length_toList]; exact its.1) fun i v hv => by
    obtain ⟨k, x, e, kx⟩ := its.2 i v (by rw [← Array.getElem?_toList]; exact hv)
    exact ⟨k, x, e, kx⟩
  have sz : acc.toList.length ≤ sizeLine := by
    rw [Array.length_toList, its.1]
    omega
  refine wpAny_bind (wpAny_newList ?_ sz)
  have at2 : (h'.push (seqObj "list" acc.toList.toArray 0)).get? h'.objs.size = some (seqObj "list" acc.toList.toArray 0) := Heap.get?_push_size _ rfl
  refine wpAny_bind (wpAny_holding (wpAny_call_entry PyProof.Rows.slot_list_sort ⟨_, at2, rfl⟩ PyProof.Rows.entry_list_sort
    (sort_new (s := { s with heap := h', toks := tk }) J rv (by show X.A.units + 1 + 1 + 62 < cLine; omega) q fun s' ep' => ⟨_, rfl, wpAny_pure ⟨_, rfl, ep'⟩⟩) (PyProof.Rows.args_list_sort _)))
end
variable [Cl] [Tt]
section
variable {d : Option Addr}
theorem keys_same {F : Hp} : ∀ {kts : List (Key × T)} {kvs : List (Key × V)} {zs : List Str}, RTd F kvs kts → tstrs (keysT kts) = some zs → (kvs.map fun kv => kV kv.1) = zs.map V.str
  | [], _, zs, r, e => by
    cases r
    cases e
    rfl
  | (.inl i, t) :: kts, _, zs, r, e => by
    unfold keysT tstrs at e
    cases e
  | (.inr z, t) :: kts, _, zs, r, e => by
    cases r with
    | cons a b =>
      unfold keysT tstrs at e
      split at e
      · rename_i bs e2
        cases e
        rw [List.map_cons, List.map_cons, keys_same b e2]
        rfl
      · cases e
theorem sorted_strs {F H : Hp} {k : T → Bool} {Q : VK} {zs : List Str} (w : Wd d F H) (q : ∀ p x F' H', Up d F H F' H' → H p = none → F' p = none → OwnAt F' H' p x → k x = true → Q (.ref p) H')
    (h0 : zs.length < 4000) (hk : k (.lst (sortD (zs.map T.str))) = true) : rSorted0 Cl.K (zs.map V.str) H Q := by
  refine ⟨zs.map fun z => (V.str z, PyData.str z), by rw [List.map_map]; rfl, fun b hb => ?_, ?_, .inr (.inr ?_), fun b hb => ?_, by rw [List.length_map, sizeLine_eq]; omega, fun p hp => ?_⟩
  · obtain ⟨z, _, rfl⟩ := List.mem_map.mp hb
    exact .str z
  · rw [List.map_map]
    exact alike_strs zs
  · intro x hx
    rw [List.map_map] at hx
    obtain ⟨z, _, rfl⟩ := List.mem_map.mp hx
    exact ⟨(fun c => by cases c), (fun xs c => by cases c)⟩
  · obtain ⟨z, _, rfl⟩ := List.mem_map.mp hb
    exact Nat.zero_le _
  · have s1 : (((zs.map fun z => (V.str z, PyData.str z)).mergeSort (dataLe false (·.2))).map fun b => (match b.2 with | .str z => T.str z | _ => T.non)) = sortD (zs.map T.str) := by
      rw [sortD_eq]
      have := sort_maps (fun b : V × PyData => (match b.2 with | .str z => T.str z | _ => T.non)) (l := zs.map fun z => (V.str z, PyData.str z)) (r := dataLe false (·.2)) (s := leD) fun a ha b hb => by
        obtain ⟨y, _, rfl⟩ := List.mem_map.mp ha
        obtain ⟨z, _, rfl⟩ := List.mem_map.mp hb
        rfl
      rw [this, List.map_map]
      rfl
    have rr : RTs F (((zs.map fun z => (V.str z, PyData.str z)).mergeSort (dataLe false (·.2))).map (·.1)) (sortD (zs.map T.str)) := by
      rw [← s1]
      have := zip_rts (F := F) (cs := ((zs.map fun z => (V.str z, PyData.str z)).mergeSort (dataLe false (·.2))).map fun b => (b.1, (match b.2 with | .str z => T.str z | _ => T.non))) fun c hc => by
        obtain ⟨b, hb, rfl⟩ := List.mem_map.mp hc
        obtain ⟨z, _, rfl⟩ := List.mem_map.mp ((List.mergeSort_perm _ _).mem_iff.mp hb)
        exact .str z
      rwa [List.map_map, List.map_map] at this
    exact q p _ F _ (up_new w hp) hp (f_none w hp) (show OwnAt F (upd H p _) p (.lst _) from ⟨_, upd_same, rr⟩) hk
/-- the keys of a dict, if they are texts, sorted -/
def bSortK : B1 := fun xs k => match xs with
  | [.dic kts] => match tstrs (keysT kts) with
    | some zs => decide (zs.length < 4000) && k (.lst (sortD (zs.map T.str)))
    | none => false
  | _ => false
theorem bn_sortK : BN d (rSortK Cl.K) bSortK := by
  intro F H vs xs wd r k hk Q q
  unfold bSortK at hk
  split at hk
  · obtain ⟨v, rfl, r1⟩ := rts1 r
    split at hk
    · rename_i zs e
      rw [Bool.and_eq_true, decide_eq_true_eq] at hk
      obtain ⟨few, hk⟩ := hk
      cases r1 with
      | dic f r =>
        rename_i a kvs
        exact ⟨_, _, rfl, rd_dic wd f, by rw [keys_same r e]; exact sorted_strs wd q few hk⟩
    · cases hk
  · cases hk
end
end Tr
set_option maxRecDepth 100000
set_option maxHeartbeats 4000000
/-! xs != ys and xs == ys, lists that hold dicts and are equal. -/
namespace PySem.SeqAt
open AutoSeq1 (wpAny_loadPart')
open MeetsSeq MeetsSeq2 MeetsSeq3 SeqRoads2
section
variable {prog : Program} {w : World}
/-- the walk of !=, all items equal from i on -/
theorem same_loop (l b : Addr) (us ws : Array Value) (n m : Nat) (d1 d2 : Option Addr) (s1 s2 : Array (Option Value)) (hz : us.size = ws.size) (k : Nat) :
    ∀ i : Nat, us.size - i = k → MeetsIn prog w (Builtin.«list.__eq__.loop» ⟨[.ref l, .ref b, rawInt i, rawInt 3], []⟩)
      (fun A R s => s.heap.get? l = some { cls := .type "list", dict := d1, data := .seq us n, slots := s1 } ∧ s.heap.get? b = some { cls := .type "list", dict := d2, data := .seq ws m, slots := s2 } ∧
        (∀ j (h1 : j < us.size) (h2 : j < ws.size), EqP prog w A.in1 s us[j] ws[j] true) ∧ R (.ok (.ret (.bool false))) s) := by
  induction k with
  | zero =>
    intro i hk A R s h
    obtain ⟨hp, g, d, tk, os⟩ := s
    obtain ⟨hl, hb, he, h⟩ := h
    wp_walk using wpAny_loadPart' hl, wpAny_loadPart' hb
    rw [show us[((i : Nat) : Int).toNat]? = none by simp; omega, show ws[((i : Nat) : Int).toNat]? = none by simp; omega]
    wp_walk using wpAny_loadPart' hl, wpAny_loadPart' hb
    show R (.ok (.ret (.bool (us.size != ws.size)))) _
    rw [hz]
    simpa using h
  | succ k ih =>
    intro i hk A R s h
    obtain ⟨hp, g, d, tk, os⟩ := s
    obtain ⟨hl, hb, he, h⟩ := h
    wp_walk using wpAny_loadPart' hl, wpAny_loadPart' hb
    have i1 : i < us.size := by omega
    have i2 : i < ws.size := by omega
    have hc : ((i : Int) + 1) = ((i + 1 : Nat) : Int) := by push_cast; rfl
    rw [show us[((i : Nat) : Int).toNat]? = some us[i] by simp [i1], show ws[((i : Nat) : Int).toNat]? = some ws[i] by simp [i2]]
    refine wpAny_bind (he i i1 i2 _ _ ?_)
    wp_walk
    rw [hc]
    exact ⟨plainId_quiet plain_eq_loop _, codeAny_builtin entry_eq_loop (by
      rw [Around.under_plainId plain_eq_loop _]
      exact ih (i + 1) (by omega) A R _ ⟨hl, hb, he, h⟩)⟩
theorem same_ne (l b : Addr) (us ws : Array Value) (n m : Nat) (d1 d2 : Option Addr) (s1 s2 : Array (Option Value)) (hz : us.size = ws.size) :
    MeetsIn prog w (Builtin.«list.__ne__» ⟨[.ref l, .ref b], []⟩)
      (fun A R s => s.heap.get? l = some { cls := .type "list", dict := d1, data := .seq us n, slots := s1 } ∧ s.heap.get? b = some { cls := .type "list", dict := d2, data := .seq ws m, slots := s2 } ∧
        (∀ j (h1 : j < us.size) (h2 : j < ws.size), EqP prog w A.in1 s us[j] ws[j] true) ∧ R (.ok (.ret (.bool false))) s) := by
  intro A R s h
  obtain ⟨hp, g, d, tk, os⟩ := s
  obtain ⟨hl, hb, he, h⟩ := h
  have f3 := AutoSeq1.sub_list_list
  have hne : ¬ (us.size != ws.size) = true := by simp [hz]
  wp_walk using wpAny_loadPart' hl, wpAny_loadPart' hb
  exact ⟨plainId_quiet plain_eq_loop _, codeAny_builtin entry_eq_loop (by
    rw [Around.under_plainId plain_eq_loop _]
    exact same_loop l b us ws n m d1 d2 s1 s2 hz _ 0 rfl A R _ ⟨hl, hb, he, h⟩)⟩
theorem ne_same {A : Around} {s : Shared} {l b : Addr} {us ws : Array Value} (hl : s.heap.IsList l us) (hb : s.heap.IsList b ws) (hz : us.size = ws.size) (hu : A.units < cLine)
    (he : ∀ j (h1 : j < us.size) (h2 : j < ws.size), EqP prog w A.in1 s us[j] ws[j] true) (E Q : Value → Shared → Prop) (h : Q (.bool false) s) : wpAny (model prog w) A (richCompare .NotEq (.ref l) (.ref b)) Q E s := by
  obtain ⟨⟨cls, d1, data, s1⟩, ho, hc, n, hd⟩ := id hl
  obtain ⟨⟨cls2, d2, data2, s2⟩, ho2, hc2, m, hd2⟩ := id hb
  simp only at hc hd hc2 hd2
  subst hc hd hc2 hd2
  have ta : s.TypeIs (.ref l) "list" := ⟨_, ho, rfl⟩
  have tb : s.TypeIs (.ref b) "list" := ⟨_, ho2, rfl⟩
  exact wpAny_richCompare_same_room (op := .NotEq) ta tb F.slot_list_ne (call_meetsIn F.slot_list_ne ta F.entry_list_ne (F.args_list_ne_2 _ _) (same_ne l b us ws n m d1 d2 s1 s2 hz)
    ⟨ho, ho2, he, show Value.bool false ≠ Value.notImplemented ∧ Q (.bool false) s from ⟨(fun x => nomatch x), h⟩⟩) hu
end
end PySem.SeqAt
namespace Tr
open PySem PySem.Spec PyProof.Rows L2 Tm
/-- equal, of nesting below n -/
def EqW (K : PySem.W.Frag) (H : Hp) : Nat → V → V → Prop
  | 0 => fun _ _ => False
  | n + 1 => fun x y => (x = y ∧ flatB x = true) ∨ (∃ a b xs ys, x = .ref a ∧ y = .ref b ∧ SqL K H a xs ∧ SqL K H b ys ∧ Paired (EqW K H n) xs ys) ∨
    ∃ a b ks ls, x = .ref a ∧ y = .ref b ∧ Rd H a (.dK ks) ∧ Rd H b (.dK ls) ∧ ks.length = ls.length ∧ ∀ p ∈ ks, ∃ u, valV ls p.1 = some u ∧ EqW K H n p.2 u
section
variable {X : Cx} {pins : List (Addr × Obj)} {σ : L2.St} {H : Hp} {s : Shared}
theorem eqW_run (I : Inv X pins σ H s) : ∀ (n : Nat) (A : Around), A.units + n < cLine → ∀ (x y : V) (v u : Value), EqW X.K H n x y → RelV x v → RelV y u → SeqAt.EqP X.prog X.w A s v u true
  | 0, _, _, _, _, _, _, h, _, _ => (show False from h).elim
  | n + 1, A, hu, x, y, v, u, h, rx, ry => by
    have ih := eqW_run I n A.in1 (by show A.units + 1 + n < cLine; omega)
    rcases h with ⟨rfl, f⟩ | ⟨a, b, xs, ys, rfl, rfl, ha, hb, hp⟩ | ⟨a, b, ks, ls, rfl, rfl, ha, hb, hl, hp⟩
    · exact (eqAt_same rx ry f).eqP
    · cases (show v = Value.ref a from rx)
      cases (show u = Value.ref b from ry)
      by_cases e : a = b
      · subst e
        exact (SeqAt.EqAt.same _).eqP
      · refine SeqAt.eqP_refs e fun E Q q => ?_
        obtain ⟨us, r1, p1, _⟩ := I.list ha
        obtain ⟨ws, r2, p2, _⟩ := I.list hb
        have hsz : us.toArray.size = ws.toArray.size := by
          rw [List.size_toArray, List.size_toArray, ← r1.length, ← r2.length]
          exact Paired.length hp
        refine SeqAt.rcP_lists (e := fun _ => true) p1.isList p2.isList hsz (by omega) (fun j h1 h2 => ?_) E Q ?_
        · have k := items_run ih hp r1 r2 j (by simpa using h1) (by simpa using h2)
          simpa using k
        · rw [show ((List.range us.toArray.size).all fun _ => true) = true from List.all_eq_true.mpr fun _ _ => rfl]
          exact q
    · cases (show v = Value.ref a from rx)
      cases (show u = Value.ref b from ry)
      by_cases e : a = b
      · subst e
        exact (SeqAt.EqAt.same _).eqP
      · refine SeqAt.eqP_refs e fun E Q q => ?_
        obtain ⟨_, ya, va, ra, da⟩ := dk_rd I.hok ha
        obtain ⟨_, yb, vb, rb, db⟩ := dk_rd I.hok hb
        refine PySem.W.rcP_dicts (knd := mixKind X.prog X.w) (r := true) ya yb da db (by omega) (fun _ => hits_run ih rb ra hp) E Q ?_
        have e : va.length = vb.length := by rw [← ra.length, ← rb.length]; exact hl
        rw [show (va.length == vb.length && true) = true from by rw [e]; simp]
        exact q
def rEqW (K : PySem.W.Frag) : R2 := fun x y H Q => ∃ n, n ≤ 60 ∧ EqW K H n x y ∧ (∃ a b, x = .ref a ∧ y = .ref b ∧ a ≠ b) ∧ Q (.bl true) H
def rNeW (K : PySem.W.Frag) : R2 := fun x y H Q => ∃ n a b xs ys, n ≤ 60 ∧ x = V.ref a ∧ y = V.ref b ∧ SqL K H a xs ∧ SqL K H b ys ∧ Paired (EqW K H n) xs ys ∧ Q (.bl false) H
theorem op_neW (hu : X.A.units + 64 < cLine) : OpR X (compareOp .NotEq) (rNeW X.K) := by
  intro pins s σ H x y v u Q I rx ry h
  obtain ⟨n, a, b, xs, ys, hn, rfl, rfl, ha, hb, hp, q⟩ := h
  cases rx
  cases ry
  show wpAny (model X.prog X.w) X.A (richCompare .NotEq (.ref a) (.ref b)) _ _ s
  obtain ⟨us, r1, p1, _⟩ := I.list ha
  obtain ⟨ws, r2, p2, _⟩ := I.list hb
  have hsz : us.toArray.size = ws.toArray.size := by
    rw [List.size_toArray, List.size_toArray, ← r1.length, ← r2.length]
    exact Paired.length hp
  refine SeqAt.ne_same p1.isList p2.isList hsz (by omega) (fun j h1 h2 => ?_) _ _ ⟨.bl false, H, I, rfl, q⟩
  have k := items_run (eqW_run I n X.A.in1 (by show X.A.units + 1 + n < cLine; omega)) hp r1 r2 j (by simpa using h1) (by simpa using h2)
  simpa using k
end
variable [Cl] [Tt]
section
def alikeL (f : T → T → Bool) : List T → List T → Bool
  | [], [] => true
  | x :: xs, y :: ys => f x y && alikeL f xs ys
  | _, _ => false
/-- alike: numbers, texts, lists and dicts of such -/
def alikeT : Nat → T → T → Bool
  | 0, _, _ => false
  | n + 1, x, y => match x, y with
    | .int i, .int j => decide (i = j)
    | .str a, .str b => eqZ a b
    | .lst xs, .lst ys => alikeL (alikeT n) xs ys
    | .dic ks, .dic ls => decide (ks.length = ls.length) && ks.all fun kv => match getT ls kv.1 with
      | some u => alikeT n kv.2 u
      | none => false
    | _, _ => false
theorem alikeL_ok {d : Option Addr} {F H : Hp} {f : T → T → Bool} {E : V → V → Prop} (ok : ∀ x y v w, RT F v x → RT F w y → f x y = true → E v w) : ∀ {xs ys : List T} {vs ws : List V}, RTs F vs xs → RTs F ws ys → alikeL f xs ys = true → Paired E vs ws
  | [], [], _, _, r1, r2, _ => by
    cases r1
    cases r2
    exact .nil
  | x :: xs, y :: ys, _, _, r1, r2, h => by
    cases r1 with
    | cons a1 b1 =>
      cases r2 with
      | cons a2 b2 =>
        unfold alikeL at h
        rw [Bool.and_eq_true] at h
        exact .cons (ok _ _ _ _ a1 a2 h.1) (alikeL_ok (d := d) (H := H) ok b1 b2 h.2)
  | [], _ :: _, _, _, _, _, h => by cases h
  | _ :: _, [], _, _, _, _, h => by cases h
theorem alike_ok {d : Option Addr} {F H : Hp} (wd : Wd d F H) : ∀ (n : Nat) (x y : T) (v w : V), RT F v x → RT F w y → alikeT n x y = true → EqW Cl.K H n v w
  | 0, _, _, _, _, _, _, h => by cases h
  | n + 1, x, y, v, w, rx, ry, h => by
    unfold alikeT at h
    split at h
    · cases rx
      cases ry
      rw [decide_eq_true_eq] at h
      rw [h]
      exact .inl ⟨rfl, rfl⟩
    · cases rx
      cases ry
      rw [eqZ_eq, decide_eq_true_eq] at h
      rw [h]
      exact .inl ⟨rfl, rfl⟩
    · cases rx with
      | lst f1 r1 =>
        cases ry with
        | lst f2 r2 => exact .inr (.inl ⟨_, _, _, _, rfl, rfl, rd_sql wd f1, rd_sql wd f2, alikeL_ok (d := d) (H := H) (fun x y v w a b c => alike_ok wd n x y v w a b c) r1 r2 h⟩)
    · cases rx with
      | dic f1 r1 =>
        cases ry with
        | dic f2 r2 =>
          rw [Bool.and_eq_true, decide_eq_true_eq, List.all_eq_true] at h
          refine .inr (.inr ⟨_, _, _, _, rfl, rfl, rd_dic wd f1, rd_dic wd f2, by rw [r1.len, r2.len]; exact h.1, fun p hp => ?_⟩)
          obtain ⟨i, hi⟩ := List.mem_iff_getElem?.mp hp
          obtain ⟨t, e1, e2⟩ := RTd.at' (k := p.1) (v := p.2) r1 hi
          have q := h.2 (p.1, t) (List.mem_of_getElem? e1)
          have g := getT_rt (k := p.1) r2
          dsimp only at q
          split at q
          · rename_i u eu
            rw [eu] at g
            obtain ⟨z, z1, z2⟩ := g
            exact ⟨z, z1, alike_ok wd n t u p.2 z e2 z2 q⟩
          · cases q
    · cases h
/-- !=, two lists of like things -/
def oNeW : O2 := fun x y k => match x, y with
  | .lst xs, .lst ys => alikeL (alikeT 40) xs ys && k (.bl false)
  | _, _ => false
theorem os_neW {d : Option Addr} : OpS d (rNeW Cl.K) oNeW := by
  intro F H v w x y wd rx ry k hk Q q
  unfold oNeW at hk
  split at hk
  · rw [Bool.and_eq_true] at hk
    cases rx with
    | lst f1 r1 =>
      cases ry with
      | lst f2 r2 => exact ⟨40, _, _, _, _, by omega, rfl, rfl, rd_sql wd f1, rd_sql wd f2, alikeL_ok (d := d) (H := H) (fun x y v w a b c => alike_ok wd 40 x y v w a b c) r1 r2 hk.1, q _ _ F H (Up.refl wd) (.bl _) hk.2⟩
  · cases hk
end
end Tr
set_option maxRecDepth 100000
set_option maxHeartbeats 4000000
namespace Tr
open PySem PySem.Spec PyProof.Rows L2 Tm
def top (i : Nat) : Stmt := PySem.Challenge.pw_termlays_k42_ranges_by_hand.main.body.getD i (.Pass ⟨0, 0, 0, 0⟩)

section
variable {P : Program} {w : World} {K : PySem.W.Frag} {mg : Str → Option Value} {base : Heap}

local macro_rules | `(tactic| walk_at "in") => `(tactic| dsimp only [cxOf, L2.start, List.map, List.length, Nat.reduceAdd, Nat.reduceSub, List.replicate, List.cons_append, List.nil_append])
local macro_rules | `(tactic| walk_at "num") => `(tactic| first
  | exact Or.inl ⟨by omega, by omega⟩ | exact Or.inr ⟨by omega, by omega⟩ | exact ⟨by omega, by omega⟩ | exact ⟨by decide, by decide, by omega⟩ | (show (0 : Int) < _; omega))
local macro_rules | `(tactic| walk_at "go1") => `(tactic| with_reducible first
  | refine x_seq ?_ | refine x_asg ?_ | refine x_ret ?_ | refine x_retN ?_ | refine x_drop ?_ | refine x_next ?_ | refine x_ifS ?_ | refine x_par ?_
  | refine x_var (by with_unfolding_all exact rfl) ?_
  | refine x_C ?_ | refine x_op ?_ | refine x_rI0 ?_ | refine x_un ?_ | refine x_rU ?_ | refine x_cb ?_ | refine x_nil ?_ | refine x_cons ?_ | refine x_test ?_ | refine x_tB ?_ | refine x_bl2 ?_
  | refine x_eq (by with_unfolding_all exact rfl) ?_ | refine x_ne (by with_unfolding_all exact rfl) ?_
  | refine x_and ?_ | refine x_or ?_ | refine x_not ?_ | refine x_andV ?_ | refine x_orV ?_ | refine x_notV ?_ | refine x_if ?_ | refine x_chain ?_ | refine x_tup ?_ | refine x_lst ?_ | refine x_call ?_ | refine x_sl ?_ | refine x_noPart ?_ | refine x_part ?_
  | refine x_int ?_ | refine x_int1 ?_ | refine x_max2 ?_ | refine x_min2 ?_ | refine x_dgetT ?_ | refine x_dputT ?_ | refine x_dinT ?_ | refine x_dnotinT ?_ | refine x_disp ?_ | refine x_pairs ?_ | refine x_pairs0 ?_ | refine x_dnew ?_ | refine x_ckw ?_ | refine x_fldS ?_ | refine x_fld ?_ | refine x_make ?_ | refine x_makeK ?_ | refine x_meth ?_ | refine x_prop ?_ | refine x_gTup (sqT (by assumption)) (by with_unfolding_all exact rfl) ?_ | refine x_gCons ?_ | refine x_gNil ?_ | refine iteT ?_ | refine x_nbt ?_ | refine i_sn ?_ | refine i_ss ?_ | refine i_nsn ?_ | refine i_nss ?_ | refine x_nbf ?_ | refine iteF ?_
  | refine x_isi_str ?_ | refine x_isi_int ?_ | refine x_isi_intB ?_ | refine x_isi_tup (by assumption) ?_ | refine x_isi_dict (by assumption) ?_ | refine x_st2 ?_ | refine x_yes ?_ | refine x_yes2 ?_ | refine x_lenSet ?_)
local macro_rules | `(tactic| walk_at "go") => `(tactic| repeat (first
  | walk_at "go1"
  | ((with_reducible refine x_rI ?c ?_); (case c => walk_at "num"))
  | ((with_reducible refine x_gName ?_); (try dsimp only [L2.wipe, List.set_cons_zero, List.set_cons_succ]))))
local macro_rules | `(tactic| walk_at "gon") => `(tactic| repeat (first
  | walk_at "go1"
  | ((with_reducible refine x_lenT (sqT (by assumption)) ?_); (try simp only [List.length_cons, List.length_nil, List.length_map]))
  | ((with_reducible refine x_lenL (sqL (by assumption)) ?_); (try simp only [List.length_cons, List.length_nil, List.length_map]))
  | (with_reducible refine x_ixT (sqT (by assumption)) (by with_unfolding_all exact rfl) ?_)
  | (with_reducible refine x_ixL (sqL (by assumption)) (by with_unfolding_all exact rfl) ?_)
  | ((with_reducible refine x_rI ?c ?_); (case c => walk_at "num"))
  | ((with_reducible refine x_gName ?_); (try dsimp only [L2.wipe, List.set_cons_zero, List.set_cons_succ]))
  | with_reducible refine i_t rfl ?_ | with_reducible refine i_f (fun e => absurd (V.int.inj e) (by omega)) ?_ | with_reducible refine i_t (congrArg V.int (by omega)) ?_ | with_reducible refine i_f (by decide +kernel) ?_ | with_reducible refine i_nt rfl ?_ | with_reducible refine i_nt (congrArg V.int (by omega)) ?_ | with_reducible refine i_nf (fun e => absurd (V.int.inj e) (by omega)) ?_
  | with_reducible refine i_t (by omega) ?_ | with_reducible refine i_f (by omega) ?_ | with_reducible refine i_nt (by omega) ?_ | with_reducible refine i_nf (by omega) ?_ | dsimp only))

abbrev s_law_tape : Stmt := top 65
theorem sc_law_tape : FnScope ["script", "start", "mixed", "cell", "digits"] ["script", "start"] (C8.fnScope s_law_tape) := C8.fnScope_by (by decide +kernel)
theorem one30 : ((10 : Int) ^ (18 : Int).toNat) = 1000000000000000000 := by decide
/-- the numbers of the script stay within the model's line -/
theorem mix_bits {m z : Int} (h0 : 0 ≤ m) (h1 : m < 4294967296) (hz : Builtin.Int.intBits z ≤ 1048576) : (m * 30029 + z * z + 13).natAbs < 2 ^ 2097160 := by
  have a := lt_of_bits hz
  have b : (z * z).natAbs < 2 ^ (1048576 + 1048576) := wide_lt a a
  have e : (2 : Nat) ^ 2097160 = 2 ^ (1048576 + 1048576) * 256 := by
    rw [show (2097160 : Nat) = (1048576 + 1048576) + 8 from rfl, Nat.pow_add]
  have big : 2 ^ 60 ≤ 2 ^ (1048576 + 1048576) := Nat.pow_le_pow_right (by decide) (by decide)
  rw [e]
  generalize (2 : Nat) ^ (1048576 + 1048576) = B at *
  omega
theorem c_law_tape (D : DefX K mg "_law_tape" s_law_tape) (T : Bl mg) : C8.Cal P w K mg base 1 "_law_tape" (spTape K) [] := by
  refine cal_of D sc_law_tape (fun _ _ _ _ _ _ us hl => match us, hl with | [_, _], _ => rfl) (fun vs H Q E h => ?_) (fun f cdv A outer s H vs Q E hr h => ?_)
  · obtain ⟨a, ns, k, rfl, _⟩ := h
    rfl
  · obtain ⟨a, ns, k, rfl, hS, hb, hk0, hk1, q⟩ := h
    have nd := sc_law_tape.nd
    refine ⟨_, (pss_cons (ps_set (i := 2) nd rfl (Or.inl rfl) (pe_op op_add pe_int (pe_op op_mul (pv 1) pe_int)))
  (pss_cons (ps_for PassesOwn.never rfl (pi_list (pv 0)) (pg_name (i := 3) nd rfl (by first | exact Or.inl rfl | exact Or.inr rfl))
  (pss_one (ps_set (i := 2) nd rfl (Or.inl rfl) (pe_op op_add (pe_op op_mod (pe_callTy call_int1' (by rfl) T.b_int (by decide +kernel) (pa_cons (pe_op op_powB (pe_op op_add (pe_op op_add (pe_op op_mul (pv 2) pe_int) (pe_op op_mulB (pv 3) (pv 3))) pe_int) pe_int) pa_nil)) pe_int) pe_int))))
  (pss_cons (ps_set (i := 4) nd rfl (Or.inl rfl) (pe_ifExp (PW.pt (pw_and (pt_cmpR op_lt (pv 1) (pe_callB call_len_seq' (by rfl) T.b_len (by decide +kernel) (pa_cons (pv 0) pa_nil)) (nomark _)) (pw_and1 (pt_cmpR op_ge (pe_ix (show IxR _ (rIxL K) from ix_list) (pv 0) (pv 1) (fun _ _ => rfl)) (pe_op op_pow pe_int pe_int) (nomark _))))) (pe_op op_sub (pe_ix (show IxR _ (rIxL K) from ix_list) (pv 0) (pv 1) (fun _ _ => rfl)) (pe_op op_pow pe_int pe_int)) pe_int))
  (pss_one (ps_ret (pe_disp (pps_cons pe_str (pv 4) (pps_cons pe_str (pv 2) pps_nil)) (by rfl) (by rfl) (fun z => by cases z) (by decide))))))), ?_⟩
    walk_at "in"
    walk_at "go"
    refine ⟨_, rfl, a, rfl, ⟨_, hS⟩, for_list (K := K) (a := a) (xs := ns.map V.int) (fun _ s' H' => ∃ (m : Int) (v : Option V), s' = [some (.ref a), some (.int k), some (.int m), v, none] ∧ 0 ≤ m ∧ m < 4294967296 ∧ H' = H) ⟨101 + k * 53, none, rfl, by omega, by omega, rfl⟩ ?_ ?_ ?_⟩
    · rintro i s' H' _ ⟨_, _, _, _, _, rfl⟩
      exact hS
    · rintro i x s' H' hx ⟨m, v, rfl, hm0, hm1, rfl⟩
      obtain ⟨z, hz, rfl⟩ : ∃ z, z ∈ ns ∧ x = V.int z := by
        have hm := List.mem_of_getElem? hx
        rw [List.mem_map] at hm
        obtain ⟨z, h1, h2⟩ := hm
        exact ⟨z, h1, h2.symm⟩
      walk_at "go"
      have hbz := hb z hz
      have lz := mix_bits hm0 hm1 hbz
      refine x_rI (show CMulB z z from ?_) ?_
      · have a := lt_of_bits hbz
        have b := log_lt_of a (by decide)
        unfold CMulB
        omega
      walk_at "go"
      refine x_rI (show CPowB _ 2 from ?_) ?_
      · have b := log_lt_of lz (by decide)
        have c := bits_le_log (m * 30029 + z * z + 13)
        refine ⟨by decide, ?_⟩
        omega
      walk_at "go"
      refine ⟨_, some (.int z), rfl, ?_, ?_, rfl⟩
      · have := Int.emod_nonneg ((m * 30029 + z * z + 13) ^ (2 : Int).toNat) (show (2147483563 : Int) ≠ 0 by decide)
        omega
      · have := Int.emod_lt_of_pos ((m * 30029 + z * z + 13) ^ (2 : Int).toNat) (show (0 : Int) < 2147483563 by decide)
        omega
    · rintro s' H' ⟨m, v, rfl, hm0, hm1, rfl⟩
      walk_at "go"
      refine x_lenL hS ?_
      walk_at "go"
      have fin : ∀ z : Int, 0 ≤ z → tRet (tDisp [(tC (V.str "digits"), tVar 4), (tC (V.str "mixed"), tVar 2)]) { nx := fun _ H' => Q .non H', rt := Q } [some (.ref a), some (.int k), some (.int m), v, some (.int z)] H' := by
        intro z hz
        walk_at "go"
        intro p hp
        walk_at "go"
        refine ⟨upd_same, [(Sum.inr "digits", .int z), (Sum.inr "mixed", .int m)], rfl, by show 2 ≤ 15; decide, ?_⟩
        rw [upd_upd, Tm.mergeT]
        exact q p z m hp ⟨hz, hm0, hm1⟩
      refine i_2 (fun hlt => ?_) (fun hge => ?_)
      · rw [List.length_map] at hlt
        have hj : k.toNat < ns.length := by omega
        have at_ : atI (ns.map V.int) k = some (V.int ns[k.toNat]) := at_of (j := k.toNat) (by omega) (by rw [List.getElem?_map, List.getElem?_eq_getElem hj]; rfl)
        walk_at "go"
        refine x_ixL hS at_ ?_
        walk_at "go"
        rw [one30]
        refine i_2 (fun hge => ?_) (fun hlt => ?_)
        · walk_at "go"
          refine x_ixL hS at_ ?_
          walk_at "go"
          rw [one30]
          exact fin _ (by omega)
        · walk_at "go"
          exact fin 0 (by decide)
      · refine iteF ?_
        walk_at "go"
        exact fin 0 (by decide)
abbrev s_law_pick : Stmt := top 66
theorem sc_law_pick : FnScope ["tape", "many", "found", "once"] ["tape", "many"] (C8.fnScope s_law_pick) := C8.fnScope_by (by decide +kernel)
theorem c_law_pick (D : DefX K mg "_law_pick" s_law_pick) (T : Bl mg) : C8.Cal P w K mg base 1 "_law_pick" spPick [] := by
  refine cal_of D sc_law_pick (fun _ _ _ _ _ _ us hl => match us, hl with | [_, _], _ => rfl) (fun vs H Q E h => ?_) (fun f cdv A outer s H vs Q E hr h => ?_)
  · obtain ⟨d, D, M, n, rfl, _⟩ := h
    rfl
  · obtain ⟨d, D, M, n, rfl, hd, tp, hn0, hn1, q⟩ := h
    have nd := sc_law_pick.nd
    have hu := hu_of hr
    refine ⟨_, (pss_cons (ps_if (pt_cmpR op_ge (pe_dget hu (pv 0) pe_str (fun _ _ => rfl)) (pv 1) (nomark _)) (pss_cons (ps_set (i := 2) nd rfl (Or.inl rfl) (pe_op op_mod (pe_callTy call_int1' (by rfl) T.b_int (by decide +kernel) (pa_cons (pe_dget hu (pv 0) pe_str (fun _ _ => rfl)) pa_nil)) (pv 1)))
  (pss_cons (ps_dput hu (pv 0) pe_str (pe_op op_fdiv (pe_dget hu (pv 0) pe_str (fun _ _ => rfl)) (pv 1)) rfl)
  (pss_one (ps_ret (pv 2))))) pss_nil)
  (pss_cons (ps_dput hu (pv 0) pe_str (pe_op op_mod (pe_callTy call_int1' (by rfl) T.b_int (by decide +kernel) (pa_cons (pe_op op_add (pe_op op_mul (pe_dget hu (pv 0) pe_str (fun _ _ => rfl)) pe_int) pe_int) pa_nil)) pe_int) rfl)
  (pss_cons (ps_set (i := 3) nd rfl (Or.inl rfl) (pe_op op_mod (pe_callTy call_int1' (by rfl) T.b_int (by decide +kernel) (pa_cons (pe_op op_pow (pe_dget hu (pv 0) pe_str (fun _ _ => rfl)) pe_int) pa_nil)) pe_int))
  (pss_one (ps_ret (pe_op op_mod (pe_callTy call_int1' (by rfl) T.b_int (by decide +kernel) (pa_cons (pe_op op_fdiv (pe_op op_mod (pe_callTy call_int1' (by rfl) T.b_int (by decide +kernel) (pa_cons (pe_op op_pow (pv 3) pe_int) pa_nil)) pe_int) pe_int) pa_nil)) (pv 1))))))), ?_⟩
    walk_at "in"
    walk_at "go"
    refine x_tD hd ?_
    walk_at "go"
    refine i_2 (fun hge => ?_) (fun hlt => ?_)
    · walk_at "go"
      refine x_tD hd ?_
      walk_at "go"
      refine x_tD hd ?_
      walk_at "go"
      refine x_tDput hd ?_
      walk_at "go"
      exact q _ _ _ (Int.emod_nonneg _ (by omega)) (Int.emod_lt_of_pos _ hn0) ⟨Int.ediv_nonneg tp.d0 (by omega), tp.m0, tp.m1⟩
    · walk_at "go"
      refine x_tM hd ?_
      walk_at "go"
      refine x_tMput hd ?_
      walk_at "go"
      refine x_tM upd_same ?_
      have m0 := Int.emod_nonneg (M * 40014 + 1031) (show (2147483563 : Int) ≠ 0 by decide)
      have m1 := Int.emod_lt_of_pos (M * 40014 + 1031) (show (0 : Int) < 2147483563 by decide)
      generalize (M * 40014 + 1031) % 2147483563 = M1 at m0 m1 ⊢
      walk_at "go"
      have p0 := Int.emod_nonneg (M1 ^ (2 : Int).toNat) (show (2147483399 : Int) ≠ 0 by decide)
      have p1 := Int.emod_lt_of_pos (M1 ^ (2 : Int).toNat) (show (0 : Int) < 2147483399 by decide)
      generalize M1 ^ (2 : Int).toNat % 2147483399 = O1 at p0 p1 ⊢
      walk_at "go"
      exact q _ _ _ (Int.emod_nonneg _ (by omega)) (Int.emod_lt_of_pos _ hn0) ⟨tp.d0, m0, by omega⟩
end

variable [Cl]
section
variable {P : Program} {w : World} {mg : Str → Option Value} {base : Heap}
/-- the function of a def with defaults, walked -/
theorem fnD {x qual : Str} {st : Stmt} {f : Addr} {fd : FuncData} {dvs : List V} {kws : List (Str × V)} {N ps : List Str} {k : Nat} {sp : Sp} (F : FunD Cl.K x qual (C8.fnArgs st) (C8.fnBody st) (C8.fnScope st) dvs kws f fd) (S : FnScope N ps (C8.fnScope st)) (len : ∀ vs H Q E, sp vs H Q E → vs.length = ps.length)
    (hbody : ∀ (cdv : Value) (A : Around) (outer : List Env) (s : Shared) (H : Hp) (vs : List V) (Q : VK) (E : XK), Room k (A.deeper (envOfC qual (C8.fnScope st) s.heap.objs.size f cdv)) → sp vs H Q E →
      ∃ t, PSs (cxOf C8.CX0 P w Cl.K mg base N qual (C8.fnScope st) f cdv A outer s H E).nox (C8.fnBody st) t ∧ t { nx := fun _ H' => Q .non H', rt := Q } (L2.start N vs) H) : FnOk P w Cl.K mg base C8.CX0 (k + 1) f fd ps sp :=
  F.ok S len fun cdv A outer s H vs Q E hr h => by
    obtain ⟨t, h1, h2⟩ := hbody cdv A outer s H vs Q E hr h
    exact ⟨t, h1.nox, h2⟩

abbrev s_is_int : Stmt := top 10
theorem sc_is_int : FnScope ["value"] ["value"] (C8.fnScope s_is_int) := C8.fnScope_by (by decide +kernel)
def m_is_int : MS := (mRet (mAndV (mCB bIsi (mCons (mVar 0) (mCons (mC (.ty "int")) mNil))) (mNotV (mCB bIsi (mCons (mVar 0) (mCons (mC (.ty "bool")) mNil))))))
def f_is_int : Fn := fnM 1 m_is_int
theorem c_is_int (B : Bl mg)  (D : DefX Cl.K mg "is_int" s_is_int) : C8.Cal P w Cl.K mg base 1 "is_int" (spT 1 f_is_int) [] := by
  refine cal_of D sc_is_int (fun _ _ _ _ _ _ us hl => match us, hl with | [_], _ => rfl) (fun vs H Q E h => spT_len h) (fun f cdv A outer s H vs Q E hr h => ?_)
  have nd := sc_is_int.nd
  have hu := hu_of hr
  refine ⟨_, (pss_one (ps_ret (pe_and (pe_callB call_isi (by rfl) B.b_isinstance (by decide +kernel) (pa_cons (pv 0) (pa_cons (pe_bltn (v := .ty "int") (by rfl) B.b_int (by decide +kernel) rfl) pa_nil))) (pe_one (pe_not (pe_callB call_isi (by rfl) B.b_isinstance (by decide +kernel) (pa_cons (pv 0) (pa_cons (pe_bltn (v := .ty "bool") (by rfl) B.b_bool (by decide +kernel) rfl) pa_nil)))))))), ?_⟩
  exact run_fn (fun I d => (z_ret (s_andV (s_cb bs_isi (s_cons s_var (s_cons (s_C fun _ => .ty _) s_nil))) (s_notV (s_cb bs_isi (s_cons s_var (s_cons (s_C fun _ => .ty _) s_nil))))))) h

abbrev s_is_name : Stmt := top 15
theorem sc_is_name : FnScope ["value", "sign"] ["value"] (C8.fnScope s_is_name) := C8.fnScope_by (by decide +kernel)
def m_is_name : MS := (mRet (mAndV (mCB bIsi (mCons (mVar 0) (mCons (mC (.ty "str")) mNil))) (mAndV (mChain (oI0 fun i j => .bl (decide (i ≤ j))) (oI0 fun i j => .bl (decide (i ≤ j))) (mC (.int 1)) (mCB bLenS (mCons (mVar 0) mNil)) (mC (.int 8))) (mCB bAll (mCons (mLc (miS (mVar 0)) (mgN 1) mYes (mChain (oS fun a b => !ltZ b a) (oS fun a b => !ltZ b a) (mC (.str (Str.ofString "a"))) (mVar 1) (mC (.str (Str.ofString "z")))) [1]) mNil)))))
def f_is_name : Fn := fnM 2 m_is_name
theorem c_is_name (B : Bl mg)  (D : DefX Cl.K mg "is_name" s_is_name) : C8.Cal P w Cl.K mg base 1 "is_name" (spT 1 f_is_name) [] := by
  refine cal_of D sc_is_name (fun _ _ _ _ _ _ us hl => match us, hl with | [_], _ => rfl) (fun vs H Q E h => spT_len h) (fun f cdv A outer s H vs Q E hr h => ?_)
  have nd := sc_is_name.nd
  have hu := hu_of hr
  refine ⟨_, (pss_one (ps_ret (pe_and (pe_callB call_isi (by rfl) B.b_isinstance (by decide +kernel) (pa_cons (pv 0) (pa_cons (pe_bltn (v := .ty "str") (by rfl) B.b_str (by decide +kernel) rfl) pa_nil))) (pe_and (pe_chain op_le op_le pe_int (pe_callB call_len_str' (by rfl) B.b_len (by decide +kernel) (pa_cons (pv 0) pa_nil)) pe_int) (pe_one (pe_callB (cr_all rfl) (by rfl) B.b_all (by decide +kernel) (pa_cons (pe_lc (own := [("sign", 1)]) (g := (gName 1)) rfl nd (pi_str (pv 0)) (blkOk_by (N := _) (by rfl)) (fun _ _ _ _ _ => (pg_name (i := 1) nd rfl (by first | exact Or.inl rfl | exact Or.inr rfl))) (fun _ _ _ _ _ => pts_nil) (fun _ _ _ _ _ => (pe_chain op_le_str op_le_str pe_str (pv 1) pe_str))) pa_nil))))))), ?_⟩
  exact run_fn (fun I d => (z_ret (s_andV (s_cb bs_isi (s_cons s_var (s_cons (s_C fun _ => .ty _) s_nil))) (s_andV (s_chain os_le os_le (s_C fun _ => .int _) (s_cb bs_lenS (s_cons s_var s_nil)) (s_C fun _ => .int _)) (s_cb bs_all (s_cons (SO.se (SOp'.so (o_lc (i_str s_var) g_name (by decide) t_yes' (s_chain os_leS os_leS (s_C fun _ => .str _) s_var (s_C fun _ => .str _))))) s_nil)))))) h

abbrev s_is_pair : Stmt := top 22
theorem sc_is_pair : FnScope ["value", "name", "parts"] ["value"] (C8.fnScope s_is_pair) := C8.fnScope_by (by decide +kernel)
def m_is_pair : MS := (mSeq (mIfS (mOr (mNot (mTB (mCB bIsi (mCons (mVar 0) (mCons (mC (.ty "tuple")) mNil))))) (mTB (mOp oNe (mCB bLenQ (mCons (mVar 0) mNil)) (mC (.int 2))))) (mRet (mC (.bl false))) mNext)
  (mSeq (mAsg (mVar 0) (mgT 2 (mgCons (mgN 1) (mgCons (mgN 2) mgNil))))
  (mRet (mAndV (mOrV (mOp oEq (mVar 1) (mC (.str (Str.ofString "")))) (mCall 1 f_is_name [] (mCons (mVar 1) mNil))) (mAndV (mCall 1 f_is_int [] (mCons (mVar 2) mNil)) (mOp (oI0 fun i j => .bl (decide (j ≤ i))) (mVar 2) (mC (.int 1))))))))
def f_is_pair : Fn := fnM 3 m_is_pair
theorem c_is_pair (B : Bl mg) (h_is_int : C8.Cal P w Cl.K mg base 1 "is_int" (spT 1 f_is_int) []) (h_is_name : C8.Cal P w Cl.K mg base 1 "is_name" (spT 1 f_is_name) []) (D : DefX Cl.K mg "_is_pair" s_is_pair) : C8.Cal P w Cl.K mg base 2 "_is_pair" (spT 1 f_is_pair) [] := by
  refine cal_of D sc_is_pair (fun _ _ _ _ _ _ us hl => match us, hl with | [_], _ => rfl) (fun vs H Q E h => spT_len h) (fun f cdv A outer s H vs Q E hr h => ?_)
  have nd := sc_is_pair.nd
  have hu := hu_of hr
  refine ⟨_, (pss_cons (ps_if (PW.pt (pw_or (pt_not (pt_val (pe_callB call_isi (by rfl) B.b_isinstance (by decide +kernel) (pa_cons (pv 0) (pa_cons (pe_bltn (v := .ty "tuple") (by rfl) B.b_tuple (by decide +kernel) rfl) pa_nil))))) (pw_or1 (pt_cmpR op_ne (pe_callB call_len_seq' (by rfl) B.b_len (by decide +kernel) (pa_cons (pv 0) pa_nil)) pe_int (nomark _))))) (pss_one (ps_ret pe_bl)) pss_nil)
  (pss_cons (ps_asg (pv 0) (pg_tup (n := 2) rfl (pgs_cons (pg_name (i := 1) nd rfl (by first | exact Or.inl rfl | exact Or.inr rfl)) (pgs_cons (pg_name (i := 2) nd rfl (by first | exact Or.inl rfl | exact Or.inr rfl)) pgs_nil))))
  (pss_one (ps_ret (pe_and (pe_or (pe_cmpR op_eq (pv 1) pe_str (nomark _)) (pe_one (C8.pe_c h_is_name hr (by decide) (by rfl) (pa_cons (pv 1) pa_nil)))) (pe_and (C8.pe_c h_is_int hr (by decide) (by rfl) (pa_cons (pv 2) pa_nil)) (pe_one (pe_cmpR op_ge (pv 2) pe_int (nomark _))))))))), ?_⟩
  exact run_fn (fun I d => (z_seq (z_if (t_or (t_not (t_b (s_cb bs_isi (s_cons s_var (s_cons (s_C fun _ => .ty _) s_nil))))) (t_b (s_op os_ne (s_cb bs_lenQ (s_cons s_var s_nil)) (s_C fun _ => .int _)))) (z_ret (s_C fun _ => .bl _)) z_next)
  (z_seq (z_asg s_var (g_tup (g_cons g_name (g_cons g_name g_nil))) (.inl rfl))
  (z_ret (s_andV (s_orV (s_op os_eq s_var (s_C fun _ => .str _)) (s_call (fun _ => .nil) (s_cons s_var s_nil))) (s_andV (s_call (fun _ => .nil) (s_cons s_var s_nil)) (s_op os_ge s_var (s_C fun _ => .int _)))))))) h

abbrev s_is_chain : Stmt := top 19
theorem sc_is_chain : FnScope ["value", "pair", "names", "name", "_"] ["value"] (C8.fnScope s_is_chain) := C8.fnScope_by (by decide +kernel)
def m_is_chain : MS := (mSeq (mIfS (mOr (mNot (mTB (mCB bIsi (mCons (mVar 0) (mCons (mC (.ty "tuple")) mNil))))) (mNot (mTB (mCB bAll (mCons (mLc (miT (mVar 0)) (mgN 1) mYes (mCall 1 f_is_pair [] (mCons (mVar 1) mNil)) [1]) mNil))))) (mRet (mC (.bl false))) mNext)
  (mSeq (mAsg (mLc (miT (mVar 0)) (mgT 2 (mgCons (mgN 3) (mgCons (mgN 4) mgNil))) mYes (mVar 3) [3, 4]) (mgN 2))
  (mRet (mOp oEqD (mVar 2) (mSortSetS (mVar 2))))))
def f_is_chain : Fn := fnM 5 m_is_chain
theorem c_is_chain (B : Bl mg) (h_is_pair : C8.Cal P w Cl.K mg base 2 "_is_pair" (spT 1 f_is_pair) []) (D : DefX Cl.K mg "is_chain" s_is_chain) : C8.Cal P w Cl.K mg base 3 "is_chain" (spT 1 f_is_chain) [] := by
  refine cal_of D sc_is_chain (fun _ _ _ _ _ _ us hl => match us, hl with | [_], _ => rfl) (fun vs H Q E h => spT_len h) (fun f cdv A outer s H vs Q E hr h => ?_)
  have nd := sc_is_chain.nd
  have hu := hu_of hr
  refine ⟨_, (pss_cons (ps_if (PW.pt (pw_or (pt_not (pt_val (pe_callB call_isi (by rfl) B.b_isinstance (by decide +kernel) (pa_cons (pv 0) (pa_cons (pe_bltn (v := .ty "tuple") (by rfl) B.b_tuple (by decide +kernel) rfl) pa_nil))))) (pw_or1 (pt_not (pt_val (pe_callB (cr_all rfl) (by rfl) B.b_all (by decide +kernel) (pa_cons (pe_lc (own := [("pair", 1)]) (g := (gName 1)) rfl nd (show PI _ _ _ (iTup Cl.K _) from pi_tup (pv 0)) (blkOk_by (N := _) (by rfl)) (fun _ _ _ _ _ => (pg_name (i := 1) nd rfl (by first | exact Or.inl rfl | exact Or.inr rfl))) (fun _ _ _ _ _ => pts_nil) (fun _ _ _ _ _ => (C8.pe_c h_is_pair hr (by decide) (by rfl) (pa_cons (pv 1) pa_nil)))) pa_nil))))))) (pss_one (ps_ret pe_bl)) pss_nil)
  (pss_cons (ps_setLc (i := 2) (own := [("name", 3), ("_", 4)]) (g := (gTup Cl.K 2 (gCons (gName 3) (gCons (gName 4) gNil)))) rfl nd rfl rfl (sw_true rfl rfl rfl (by decide +kernel)) (show PI _ _ _ (iTup Cl.K _) from pi_tup (pv 0)) (blkOk_by (N := _) (by rfl)) (fun _ _ _ _ _ => (pg_tup (n := 2) rfl (pgs_cons (pg_name (i := 3) nd rfl (by first | exact Or.inl rfl | exact Or.inr rfl)) (pgs_cons (pg_name (i := 4) nd rfl (by first | exact Or.inl rfl | exact Or.inr rfl)) pgs_nil)))) (fun _ _ _ _ _ => pts_nil) (fun _ _ _ _ _ => (pv 3)))
  (pss_one (ps_ret (pe_cmpR (show OpR _ (compareOp .Eq) (rEqD Cl.K) from op_eqD (hu64 hr)) (pv 2) (pe_sortSetS rfl (hu64 hr) (by rfl) B.b_sorted (by rfl) B.b_set (pv 2)) (nomark _)))))), ?_⟩
  exact run_fn (fun I d => (z_seq (z_if (t_or (t_not (t_b (s_cb bs_isi (s_cons s_var (s_cons (s_C fun _ => .ty _) s_nil))))) (t_not (t_b (s_cb bs_all (s_cons (SO.se (SOp'.so (o_lc (i_tup s_var) g_name (by decide) t_yes' (s_call (fun _ => .nil) (s_cons s_var s_nil))))) s_nil))))) (z_ret (s_C fun _ => .bl _)) z_next)
  (z_seq (z_asg (SO.se (SOp'.so (o_lc (i_tup s_var) (g_tup (g_cons g_name (g_cons g_name g_nil))) (by decide) t_yes' s_var))) g_name (.inl rfl))
  (z_ret (s_op os_eqD s_var (SO.se (o_sortSetS s_var))))))) h

abbrev s_are_chains : Stmt := top 60
theorem sc_are_chains : FnScope ["value", "chain"] ["value"] (C8.fnScope s_are_chains) := C8.fnScope_by (by decide +kernel)
def m_are_chains : MS := (mRet (mAndV (mCB bIsiT (mCons (mVar 0) (mCons (mTupL (mCons (mC (.ty "list")) (mCons (mC (.ty "tuple")) mNil))) mNil))) (mAndV (mOp (oI0 fun i j => .bl (decide (j < i))) (mCB bLenQ (mCons (mVar 0) mNil)) (mC (.int 0))) (mCB bAll (mCons (mLc (miL (mVar 0)) (mgN 1) mYes (mCall 1 f_is_chain [] (mCons (mVar 1) mNil)) [1]) mNil)))))
def f_are_chains : Fn := fnM 2 m_are_chains
theorem c_are_chains (B : Bl mg) (h_is_chain : C8.Cal P w Cl.K mg base 3 "is_chain" (spT 1 f_is_chain) []) (D : DefX Cl.K mg "_are_chains" s_are_chains) : C8.Cal P w Cl.K mg base 4 "_are_chains" (spT 1 f_are_chains) [] := by
  refine cal_of D sc_are_chains (fun _ _ _ _ _ _ us hl => match us, hl with | [_], _ => rfl) (fun vs H Q E h => spT_len h) (fun f cdv A outer s H vs Q E hr h => ?_)
  have nd := sc_are_chains.nd
  have hu := hu_of hr
  refine ⟨_, (pss_one (ps_ret (pe_and (pe_callB call_isiT (by rfl) B.b_isinstance (by decide +kernel) (pa_cons (pv 0) (pa_cons (pe_tup (pa_cons (pe_bltn (v := .ty "list") (by rfl) B.b_list (by decide +kernel) rfl) (pa_cons (pe_bltn (v := .ty "tuple") (by rfl) B.b_tuple (by decide +kernel) rfl) pa_nil))) pa_nil))) (pe_and (pe_cmpR op_gt (pe_callB call_len_seq' (by rfl) B.b_len (by decide +kernel) (pa_cons (pv 0) pa_nil)) pe_int (nomark _)) (pe_one (pe_callB (cr_all rfl) (by rfl) B.b_all (by decide +kernel) (pa_cons (pe_lc (own := [("chain", 1)]) (g := (gName 1)) rfl nd (show PI _ _ _ (iList Cl.K _) from pi_list (pv 0)) (blkOk_by (N := _) (by rfl)) (fun _ _ _ _ _ => (pg_name (i := 1) nd rfl (by first | exact Or.inl rfl | exact Or.inr rfl))) (fun _ _ _ _ _ => pts_nil) (fun _ _ _ _ _ => (C8.pe_c h_is_chain hr (by decide) (by rfl) (pa_cons (pv 1) pa_nil)))) pa_nil))))))), ?_⟩
  exact run_fn (fun I d => (z_ret (s_andV (s_cb bs_isiT (s_cons s_var (s_cons (s_tupL (s_cons (s_C fun _ => .ty _) (s_cons (s_C fun _ => .ty _) s_nil))) s_nil))) (s_andV (s_op os_gt (s_cb bs_lenQ (s_cons s_var s_nil)) (s_C fun _ => .int _)) (s_cb bs_all (s_cons (SO.se (SOp'.so (o_lc (i_list s_var) g_name (by decide) t_yes' (s_call (fun _ => .nil) (s_cons s_var s_nil))))) s_nil)))))) h

abbrev s_parts_ahead : Stmt := top 59
theorem sc_parts_ahead : FnScope ["other", "chain", "held", "name", "parts"] ["other", "chain"] (C8.fnScope s_parts_ahead) := C8.fnScope_by (by decide +kernel)
def m_parts_ahead : MS := (mSeq (mAsg (mCB bDictT (mCons (mVar 0) mNil)) (mgN 2))
  (mRet (mLc (miT (mVar 1)) (mgT 2 (mgCons (mgN 3) (mgCons (mgN 4) mgNil))) mYes (mOp (oI0 fun i j => .int (i - j)) (mDGet2 (mVar 2) (mVar 3) (mC (.int 0))) (mVar 4)) [3, 4])))
def f_parts_ahead : Fn := fnM 5 m_parts_ahead
theorem c_parts_ahead (B : Bl mg)  (D : DefX Cl.K mg "_parts_ahead" s_parts_ahead) : C8.Cal P w Cl.K mg base 1 "_parts_ahead" (spT 2 f_parts_ahead) [] := by
  refine cal_of D sc_parts_ahead (fun _ _ _ _ _ _ us hl => match us, hl with | [_, _], _ => rfl) (fun vs H Q E h => spT_len h) (fun f cdv A outer s H vs Q E hr h => ?_)
  have nd := sc_parts_ahead.nd
  have hu := hu_of hr
  refine ⟨_, (pss_cons (ps_set (i := 2) nd rfl (Or.inr rfl) (pe_callTy (show CallR _ _ (rDictT Cl.K) from call_dictT rfl) (by rfl) B.b_dict (by decide +kernel) (pa_cons (pv 0) pa_nil)))
  (pss_one (ps_ret (pe_lc (own := [("name", 3), ("parts", 4)]) (g := (gTup Cl.K 2 (gCons (gName 3) (gCons (gName 4) gNil)))) rfl nd (show PI _ _ _ (iTup Cl.K _) from pi_tup (pv 1)) (blkOk_by (N := _) (by rfl)) (fun _ _ _ _ _ => (pg_tup (n := 2) rfl (pgs_cons (pg_name (i := 3) nd rfl (by first | exact Or.inl rfl | exact Or.inr rfl)) (pgs_cons (pg_name (i := 4) nd rfl (by first | exact Or.inl rfl | exact Or.inr rfl)) pgs_nil)))) (fun _ _ _ _ _ => pts_nil) (fun _ _ _ _ _ => (pe_op op_sub (pe_dget2 hu (pv 2) (pv 3) pe_int ⟨rfl, rfl, rfl, rfl⟩) (pv 4))))))), ?_⟩
  exact run_fn (fun I d => (z_seq (z_asg (SO.se (o_cb bn_dictT (s_cons s_var s_nil))) g_name (.inl rfl))
  (z_ret (SO.se (SOp'.so (o_lc (i_tup s_var) (g_tup (g_cons g_name (g_cons g_name g_nil))) (by decide) t_yes' (s_op os_sub (s_dget2 s_var s_var (s_C fun _ => .int _)) s_var))))))) h

abbrev s_all_parts_ahead : Stmt := top 58
theorem sc_all_parts_ahead : FnScope ["chains", "chain", "other"] ["chains", "chain"] (C8.fnScope s_all_parts_ahead) := C8.fnScope_by (by decide +kernel)
def m_all_parts_ahead : MS := (mRet (mLc (miL (mVar 0)) (mgN 2) mYes (mCall 2 f_parts_ahead [] (mCons (mVar 2) (mCons (mVar 1) mNil))) [2]))
def f_all_parts_ahead : Fn := fnM 3 m_all_parts_ahead
theorem c_all_parts_ahead (B : Bl mg) (h_parts_ahead : C8.Cal P w Cl.K mg base 1 "_parts_ahead" (spT 2 f_parts_ahead) []) (D : DefX Cl.K mg "_all_parts_ahead" s_all_parts_ahead) : C8.Cal P w Cl.K mg base 2 "_all_parts_ahead" (spT 2 f_all_parts_ahead) [] := by
  refine cal_of D sc_all_parts_ahead (fun _ _ _ _ _ _ us hl => match us, hl with | [_, _], _ => rfl) (fun vs H Q E h => spT_len h) (fun f cdv A outer s H vs Q E hr h => ?_)
  have nd := sc_all_parts_ahead.nd
  have hu := hu_of hr
  refine ⟨_, (pss_one (ps_ret (pe_lc (own := [("other", 2)]) (g := (gName 2)) rfl nd (show PI _ _ _ (iList Cl.K _) from pi_list (pv 0)) (blkOk_by (N := _) (by rfl)) (fun _ _ _ _ _ => (pg_name (i := 2) nd rfl (by first | exact Or.inl rfl | exact Or.inr rfl))) (fun _ _ _ _ _ => pts_nil) (fun _ _ _ _ _ => (C8.pe_c h_parts_ahead hr (by decide) (by rfl) (pa_cons (pv 2) (pa_cons (pv 1) pa_nil))))))), ?_⟩
  exact run_fn (fun I d => (z_ret (SO.se (SOp'.so (o_lc (i_list s_var) g_name (by decide) t_yes' (s_call (fun _ => .nil) (s_cons s_var (s_cons s_var s_nil)))))))) h

abbrev s_spread : Stmt := top 30
theorem sc_spread : FnScope ["weights", "many", "number"] ["weights", "many"] (C8.fnScope s_spread) := C8.fnScope_by (by decide +kernel)
def m_spread : MS := (mRet (mCB bTuple (mCons (mLc (miR1 (mCons (mVar 1) mNil)) (mgN 2) mYes (mDGet2 (mVar 0) (mVar 2) (mC (.int 0))) [2]) mNil)))
def f_spread : Fn := fnM 3 m_spread
theorem c_spread (B : Bl mg)  (D : DefX Cl.K mg "_spread" s_spread) : C8.Cal P w Cl.K mg base 1 "_spread" (spT 2 f_spread) [] := by
  refine cal_of D sc_spread (fun _ _ _ _ _ _ us hl => match us, hl with | [_, _], _ => rfl) (fun vs H Q E h => spT_len h) (fun f cdv A outer s H vs Q E hr h => ?_)
  have nd := sc_spread.nd
  have hu := hu_of hr
  refine ⟨_, (pss_one (ps_ret (pe_callTy (show CallR _ _ (rTupB Cl.K) from call_tupB) (by rfl) B.b_tuple (by decide +kernel) (pa_cons (pe_lc (own := [("number", 2)]) (g := (gName 2)) rfl nd (pi_range1 (by rfl) B.b_range (pa_cons (pv 1) pa_nil)) (blkOk_by (N := _) (by rfl)) (fun _ _ _ _ _ => (pg_name (i := 2) nd rfl (by first | exact Or.inl rfl | exact Or.inr rfl))) (fun _ _ _ _ _ => pts_nil) (fun _ _ _ _ _ => (pe_dget2 hu (pv 0) (pv 2) pe_int ⟨rfl, rfl, rfl, rfl⟩))) pa_nil)))), ?_⟩
  exact run_fn (fun I d => (z_ret (s_cb bs_tuple (s_cons (SO.se (SOp'.so (o_lc (i_range1 (s_cons s_var s_nil)) g_name (by decide) t_yes' (s_dget2 s_var s_var (s_C fun _ => .int _))))) s_nil)))) h

abbrev s_weighed : Stmt := top 13
theorem sc_weighed : FnScope ["weights", "numbers", "weight", "number"] ["weights", "numbers"] (C8.fnScope s_weighed) := C8.fnScope_by (by decide +kernel)
def m_weighed : MS := (mRet (mCB bSum (mCons (mLc (miZip2 (mCons (mVar 0) (mCons (mVar 1) mNil))) (mgT 2 (mgCons (mgN 2) (mgCons (mgN 3) mgNil))) mYes (mOp (oI cMulB fun i j => .int (i * j)) (mVar 2) (mVar 3)) [2, 3]) mNil)))
def f_weighed : Fn := fnM 4 m_weighed
theorem c_weighed (B : Bl mg)  (D : DefX Cl.K mg "weighed" s_weighed) : C8.Cal P w Cl.K mg base 1 "weighed" (spT 2 f_weighed) [] := by
  refine cal_of D sc_weighed (fun _ _ _ _ _ _ us hl => match us, hl with | [_, _], _ => rfl) (fun vs H Q E h => spT_len h) (fun f cdv A outer s H vs Q E hr h => ?_)
  have nd := sc_weighed.nd
  have hu := hu_of hr
  refine ⟨_, (pss_one (ps_ret (pe_callB (cr_sum rfl) (by rfl) B.b_sum (by decide +kernel) (pa_cons (pe_lc (own := [("weight", 2), ("number", 3)]) (g := (gTup Cl.K 2 (gCons (gName 2) (gCons (gName 3) gNil)))) rfl nd (show PI _ _ _ (ZN.iZip2 Cl.K _) from ZN.pi_zip2 (by rfl) B.b_zip (pa_cons (pv 0) (pa_cons (pv 1) pa_nil))) (blkOk_by (N := _) (by rfl)) (fun _ _ _ _ _ => (pg_tup (n := 2) rfl (pgs_cons (pg_name (i := 2) nd rfl (by first | exact Or.inl rfl | exact Or.inr rfl)) (pgs_cons (pg_name (i := 3) nd rfl (by first | exact Or.inl rfl | exact Or.inr rfl)) pgs_nil)))) (fun _ _ _ _ _ => pts_nil) (fun _ _ _ _ _ => (pe_op op_mulB (pv 2) (pv 3)))) pa_nil)))), ?_⟩
  exact run_fn (fun I d => (z_ret (s_cb bs_sum (s_cons (SO.se (SOp'.so (o_lc (i_zip2 (s_cons s_var (s_cons s_var s_nil))) (g_tup (g_cons g_name (g_cons g_name g_nil))) (by decide) t_yes' (s_op os_mulB s_var s_var)))) s_nil)))) h

abbrev s_is_row : Stmt := top 28
theorem sc_is_row : FnScope ["value", "entry"] ["value"] (C8.fnScope s_is_row) := C8.fnScope_by (by decide +kernel)
def m_is_row : MS := (mRet (mAndV (mCB bIsi (mCons (mVar 0) (mCons (mC (.ty "list")) mNil))) (mAndV (mOp (oI0 fun i j => .bl (decide (j < i))) (mCB bLenQ (mCons (mVar 0) mNil)) (mC (.int 0))) (mCB bAll (mCons (mLc (miL (mVar 0)) (mgN 1) mYes (mCall 1 f_is_int [] (mCons (mVar 1) mNil)) [1]) mNil)))))
def f_is_row : Fn := fnM 2 m_is_row
theorem c_is_row (B : Bl mg) (h_is_int : C8.Cal P w Cl.K mg base 1 "is_int" (spT 1 f_is_int) []) (D : DefX Cl.K mg "_is_row" s_is_row) : C8.Cal P w Cl.K mg base 2 "_is_row" (spT 1 f_is_row) [] := by
  refine cal_of D sc_is_row (fun _ _ _ _ _ _ us hl => match us, hl with | [_], _ => rfl) (fun vs H Q E h => spT_len h) (fun f cdv A outer s H vs Q E hr h => ?_)
  have nd := sc_is_row.nd
  have hu := hu_of hr
  refine ⟨_, (pss_one (ps_ret (pe_and (pe_callB call_isi (by rfl) B.b_isinstance (by decide +kernel) (pa_cons (pv 0) (pa_cons (pe_bltn (v := .ty "list") (by rfl) B.b_list (by decide +kernel) rfl) pa_nil))) (pe_and (pe_cmpR op_gt (pe_callB call_len_seq' (by rfl) B.b_len (by decide +kernel) (pa_cons (pv 0) pa_nil)) pe_int (nomark _)) (pe_one (pe_callB (cr_all rfl) (by rfl) B.b_all (by decide +kernel) (pa_cons (pe_lc (own := [("entry", 1)]) (g := (gName 1)) rfl nd (show PI _ _ _ (iList Cl.K _) from pi_list (pv 0)) (blkOk_by (N := _) (by rfl)) (fun _ _ _ _ _ => (pg_name (i := 1) nd rfl (by first | exact Or.inl rfl | exact Or.inr rfl))) (fun _ _ _ _ _ => pts_nil) (fun _ _ _ _ _ => (C8.pe_c h_is_int hr (by decide) (by rfl) (pa_cons (pv 1) pa_nil)))) pa_nil))))))), ?_⟩
  exact run_fn (fun I d => (z_ret (s_andV (s_cb bs_isi (s_cons s_var (s_cons (s_C fun _ => .ty _) s_nil))) (s_andV (s_op os_gt (s_cb bs_lenQ (s_cons s_var s_nil)) (s_C fun _ => .int _)) (s_cb bs_all (s_cons (SO.se (SOp'.so (o_lc (i_list s_var) g_name (by decide) t_yes' (s_call (fun _ => .nil) (s_cons s_var s_nil))))) s_nil)))))) h

abbrev s_is_matrix : Stmt := top 24
theorem sc_is_matrix : FnScope ["value", "row"] ["value"] (C8.fnScope s_is_matrix) := C8.fnScope_by (by decide +kernel)
def m_is_matrix : MS := (mSeq (mIfS (mOr (mNot (mTB (mCB bIsi (mCons (mVar 0) (mCons (mC (.ty "list")) mNil))))) (mOr (mTB (mOp oEq (mCB bLenQ (mCons (mVar 0) mNil)) (mC (.int 0)))) (mNot (mTB (mCB bAll (mCons (mLc (miL (mVar 0)) (mgN 1) mYes (mCall 1 f_is_row [] (mCons (mVar 1) mNil)) [1]) mNil)))))) (mRet (mC (.bl false))) mNext)
  (mRet (mCB bAll (mCons (mLc (miL (mVar 0)) (mgN 1) mYes (mOp oEq (mCB bLenQ (mCons (mVar 1) mNil)) (mCB bLenQ (mCons (mOp oIxL (mVar 0) (mC (.int 0))) mNil))) [1]) mNil))))
def f_is_matrix : Fn := fnM 2 m_is_matrix
theorem c_is_matrix (B : Bl mg) (h_is_row : C8.Cal P w Cl.K mg base 2 "_is_row" (spT 1 f_is_row) []) (D : DefX Cl.K mg "is_matrix" s_is_matrix) : C8.Cal P w Cl.K mg base 3 "is_matrix" (spT 1 f_is_matrix) [] := by
  refine cal_of D sc_is_matrix (fun _ _ _ _ _ _ us hl => match us, hl with | [_], _ => rfl) (fun vs H Q E h => spT_len h) (fun f cdv A outer s H vs Q E hr h => ?_)
  have nd := sc_is_matrix.nd
  have hu := hu_of hr
  refine ⟨_, (pss_cons (ps_if (PW.pt (pw_or (pt_not (pt_val (pe_callB call_isi (by rfl) B.b_isinstance (by decide +kernel) (pa_cons (pv 0) (pa_cons (pe_bltn (v := .ty "list") (by rfl) B.b_list (by decide +kernel) rfl) pa_nil))))) (pw_or (pt_cmpR op_eq (pe_callB call_len_seq' (by rfl) B.b_len (by decide +kernel) (pa_cons (pv 0) pa_nil)) pe_int (nomark _)) (pw_or1 (pt_not (pt_val (pe_callB (cr_all rfl) (by rfl) B.b_all (by decide +kernel) (pa_cons (pe_lc (own := [("row", 1)]) (g := (gName 1)) rfl nd (show PI _ _ _ (iList Cl.K _) from pi_list (pv 0)) (blkOk_by (N := _) (by rfl)) (fun _ _ _ _ _ => (pg_name (i := 1) nd rfl (by first | exact Or.inl rfl | exact Or.inr rfl))) (fun _ _ _ _ _ => pts_nil) (fun _ _ _ _ _ => (C8.pe_c h_is_row hr (by decide) (by rfl) (pa_cons (pv 1) pa_nil)))) pa_nil)))))))) (pss_one (ps_ret pe_bl)) pss_nil)
  (pss_one (ps_ret (pe_callB (cr_all rfl) (by rfl) B.b_all (by decide +kernel) (pa_cons (pe_lc (own := [("row", 1)]) (g := (gName 1)) rfl nd (show PI _ _ _ (iList Cl.K _) from pi_list (pv 0)) (blkOk_by (N := _) (by rfl)) (fun _ _ _ _ _ => (pg_name (i := 1) nd rfl (by first | exact Or.inl rfl | exact Or.inr rfl))) (fun _ _ _ _ _ => pts_nil) (fun _ _ _ _ _ => (pe_cmpR op_eq (pe_callB (show CallR _ _ (rLenQ Cl.K) from call_len_seq') (by rfl) B.b_len (by decide +kernel) (pa_cons (pv 1) pa_nil)) (pe_callB (show CallR _ _ (rLenQ Cl.K) from call_len_seq') (by rfl) B.b_len (by decide +kernel) (pa_cons (pe_ix (show IxR _ (rIxL Cl.K) from ix_list) (pv 0) pe_int (fun _ _ => rfl)) pa_nil)) (nomark _)))) pa_nil))))), ?_⟩
  exact run_fn (fun I d => (z_seq (z_if (t_or (t_not (t_b (s_cb bs_isi (s_cons s_var (s_cons (s_C fun _ => .ty _) s_nil))))) (t_or (t_b (s_op os_eq (s_cb bs_lenQ (s_cons s_var s_nil)) (s_C fun _ => .int _))) (t_not (t_b (s_cb bs_all (s_cons (SO.se (SOp'.so (o_lc (i_list s_var) g_name (by decide) t_yes' (s_call (fun _ => .nil) (s_cons s_var s_nil))))) s_nil)))))) (z_ret (s_C fun _ => .bl _)) z_next)
  (z_ret (s_cb bs_all (s_cons (SO.se (SOp'.so (o_lc (i_list s_var) g_name (by decide) t_yes' (s_op os_eq (s_cb bs_lenQ (s_cons s_var s_nil)) (s_cb bs_lenQ (s_cons (s_op os_ixL' s_var (s_C fun _ => .int _)) s_nil)))))) s_nil))))) h

abbrev s_first_table : Stmt := top 31
theorem sc_first_table : FnScope ["matrix", "lift", "lines", "entry", "column"] ["matrix", "lift"] (C8.fnScope s_first_table) := C8.fnScope_by (by decide +kernel)
def m_first_table : MS := (mSeq (mAsg (mLc (miZipN (mVar 0)) (mgN 4) mYes (mOp oCat (mLc (miT (mVar 4)) (mgN 3) mYes (mOp (oI0 fun i j => .int (i + j)) (mVar 3) (mVar 1)) [3]) (mLst (mCons (mC (.int 1)) mNil))) [4]) (mgN 2))
  (mRet (mOp oCat (mVar 2) (mLst (mCons (mOp oCat (mOp oRep (mLst (mCons (mUn (fun i => .int (-i)) (mC (.int 1))) mNil)) (mCB bLenQ (mCons (mVar 0) mNil))) (mLst (mCons (mC (.int 0)) mNil))) mNil)))))
def f_first_table : Fn := fnM 5 m_first_table
theorem c_first_table (B : Bl mg)  (D : DefX Cl.K mg "_first_table" s_first_table) : C8.Cal P w Cl.K mg base 1 "_first_table" (spT 2 f_first_table) [] := by
  refine cal_of D sc_first_table (fun _ _ _ _ _ _ us hl => match us, hl with | [_, _], _ => rfl) (fun vs H Q E h => spT_len h) (fun f cdv A outer s H vs Q E hr h => ?_)
  have nd := sc_first_table.nd
  have hu := hu_of hr
  refine ⟨_, (pss_cons (ps_setLc (i := 2) (own := [("column", 4)]) (g := (gName 4)) rfl nd rfl rfl (sw_true rfl rfl rfl (by decide +kernel)) (show PI _ _ _ (ZN.iZipN Cl.K _) from ZN.pi_zipN (by rfl) B.b_zip (pv 0)) (blkOk_by (N := _) (by rfl)) (fun _ _ _ _ _ => (pg_name (i := 4) nd rfl (by first | exact Or.inl rfl | exact Or.inr rfl))) (fun _ _ _ _ _ => pts_nil) (fun _ _ _ _ _ => (pe_op op_cat (pe_lc (own := [("entry", 3)]) (g := (gName 3)) rfl nd (show PI _ _ _ (iTup Cl.K _) from pi_tup (pv 4)) (blkOk_by (N := _) (by rfl)) (fun _ _ _ _ _ => (pg_name (i := 3) nd rfl (by first | exact Or.inl rfl | exact Or.inr rfl))) (fun _ _ _ _ _ => pts_nil) (fun _ _ _ _ _ => (pe_op op_add (pv 3) (pv 1)))) (pe_lst (pa_cons pe_int pa_nil)))))
  (pss_one (ps_ret (pe_op op_cat (pv 2) (pe_lst (pa_cons (pe_op op_cat (pe_op op_rep (pe_lst (pa_cons (pe_un un_neg pe_int) pa_nil)) (pe_callB call_len_seq' (by rfl) B.b_len (by decide +kernel) (pa_cons (pv 0) pa_nil))) (pe_lst (pa_cons pe_int pa_nil))) pa_nil)))))), ?_⟩
  exact run_fn (fun I d => (z_seq (z_asg (SO.se (SOp'.so (o_lc (i_zipN s_var) g_name (by decide) t_yes' (SO.se (o_op on_cat (SO.se (SOp'.so (o_lc (i_tup s_var) g_name (by decide) t_yes' (s_op os_add s_var s_var)))) (SO.se (o_lst (s_cons (s_C fun _ => .int _) s_nil)))))))) g_name (.inl rfl))
  (z_ret (SO.se (o_op on_cat s_var (SO.se (o_lst (s_cons (SO.se (o_op on_cat (SO.se (o_op on_rep (SO.se (o_lst (s_cons (s_un (fun _ _ => .int _) (s_C fun _ => .int _)) s_nil))) (s_cb bs_lenQ (s_cons s_var s_nil)))) (SO.se (o_lst (s_cons (s_C fun _ => .int _) s_nil))))) s_nil)))))))) h

abbrev s_gaining : Stmt := top 33
theorem sc_gaining : FnScope ["costs", "free", "careful", "gaining", "column"] ["costs", "free", "careful"] (C8.fnScope s_gaining) := C8.fnScope_by (by decide +kernel)
def m_gaining : MS := (mSeq (mAsg (mLc (miR1 (mCons (mCB bLenQ (mCons (mVar 1) mNil)) mNil)) (mgN 4) (mTB (mOp (oI0 fun i j => .bl (decide (i < j))) (mOp oIxL (mVar 0) (mVar 4)) (mC (.int 0)))) (mVar 4) [4]) (mgN 3))
  (mSeq (mIfS (mTB (mVar 2)) (mRet (mMinK (mVar 3) (mOp oIxL (mVar 1) (mVar 4)) (kfIx 1 4) 4)) mNext)
  (mRet (mMinK (mVar 3) (mOp oIxL (mVar 0) (mVar 4)) (kfIx 0 4) 4))))
def f_gaining : Fn := fnM 5 m_gaining
theorem c_gaining (B : Bl mg) (h_tb_gaining : TabX Cl.K base mg Cl.tb "_gaining" "_gaining.<locals>.<lambda>") (D : DefX Cl.K mg "_gaining" s_gaining) : C8.Cal P w Cl.K mg base 3 "_gaining" (spT 3 f_gaining) [] := by
  refine cal_ofT D h_tb_gaining sc_gaining (fun _ _ _ _ _ _ us hl => match us, hl with | [_, _, _], _ => rfl) (fun vs H Q E h => spT_len h) (fun f c Pt tB mT oT A outer s H vs Q E hr h => ?_)
  have nd := sc_gaining.nd
  have hu := hu_of hr
  refine ⟨_, (pss_cons (ps_setLc (i := 3) (own := [("column", 4)]) (g := (gName 4)) rfl nd rfl rfl (sw_true rfl rfl rfl (by decide +kernel)) (pi_range1 (by rfl) B.b_range (pa_cons (pe_callB (show CallR _ _ (rLenQ Cl.K) from call_len_seq') (by rfl) B.b_len (by decide +kernel) (pa_cons (pv 1) pa_nil)) pa_nil)) (blkOk_by (N := _) (by rfl)) (fun _ _ _ _ _ => (pg_name (i := 4) nd rfl (by first | exact Or.inl rfl | exact Or.inr rfl))) (fun _ _ _ _ _ => (pts_one (pt_cmpR op_lt (pe_ix (show IxR _ (rIxL Cl.K) from ix_list) (pv 0) (pv 4) (fun _ _ => rfl)) pe_int (nomark _)))) (fun _ _ _ _ _ => (pv 4)))
  (pss_cons (ps_if (pt_val (pv 2)) (pss_one (ps_ret (LM.pe_minL (T := Cl.tb) (x := "column") (j := 4) (k := 0) (by rfl) B.b_min (pa_cons (pv 3) pa_nil) nd rfl (LM.lam1_by (sc := C8.fnScope s_gaining) (by decide +kernel)) (hr.mono (by decide)) rfl (fun _ _ _ _ _ _ => rfl) (fun A outer s H f c hr => (pe_ix (show IxR _ (rIxL Cl.K) from ix_list) (pv 1) (pv 4) (fun _ _ => rfl))) tB rfl mT oT rfl))) pss_nil)
  (pss_one (ps_ret (LM.pe_minL (T := Cl.tb) (x := "column") (j := 4) (k := 0) (by rfl) B.b_min (pa_cons (pv 3) pa_nil) nd rfl (LM.lam1_by (sc := C8.fnScope s_gaining) (by decide +kernel)) (hr.mono (by decide)) rfl (fun _ _ _ _ _ _ => rfl) (fun A outer s H f c hr => (pe_ix (show IxR _ (rIxL Cl.K) from ix_list) (pv 0) (pv 4) (fun _ _ => rfl))) tB rfl mT oT rfl))))), ?_⟩
  exact run_fn (fun I d => (z_seq (z_asg (SO.se (SOp'.so (o_lc (i_range1 (s_cons (s_cb bs_lenQ (s_cons s_var s_nil)) s_nil)) g_name (by decide) (t_b (s_op os_lt (s_op os_ixL' s_var s_var) (s_C fun _ => .int _))) s_var))) g_name (.inl rfl))
  (z_seq (z_if (t_b s_var) (z_ret (s_minK s_var (s_op os_ixL' s_var s_var))) z_next)
  (z_ret (s_minK s_var (s_op os_ixL' s_var s_var)))))) h

abbrev s_is_tighter : Stmt := top 35
theorem sc_is_tighter : FnScope ["table", "bound", "column", "line", "other", "gap"] ["table", "bound", "column", "line", "other"] (C8.fnScope s_is_tighter) := C8.fnScope_by (by decide +kernel)
def m_is_tighter : MS := (mSeq (mAsg (mOp (oI0 fun i j => .int (i - j)) (mOp (oI cMulB fun i j => .int (i * j)) (mOp oIxL (mOp oIxL (mVar 0) (mVar 3)) (mUn (fun i => .int (-i)) (mC (.int 1)))) (mOp oIxL (mOp oIxL (mVar 0) (mVar 4)) (mVar 2))) (mOp (oI cMulB fun i j => .int (i * j)) (mOp oIxL (mOp oIxL (mVar 0) (mVar 4)) (mUn (fun i => .int (-i)) (mC (.int 1)))) (mOp oIxL (mOp oIxL (mVar 0) (mVar 3)) (mVar 2)))) (mgN 5))
  (mRet (mOrV (mOp (oI0 fun i j => .bl (decide (i < j))) (mVar 5) (mC (.int 0))) (mAndV (mOp oEq (mVar 5) (mC (.int 0))) (mOp (oI0 fun i j => .bl (decide (i < j))) (mOp oIxL (mVar 1) (mVar 3)) (mOp oIxL (mVar 1) (mVar 4)))))))
def f_is_tighter : Fn := fnM 6 m_is_tighter
theorem c_is_tighter (B : Bl mg)  (D : DefX Cl.K mg "_is_tighter" s_is_tighter) : C8.Cal P w Cl.K mg base 1 "_is_tighter" (spT 5 f_is_tighter) [] := by
  refine cal_of D sc_is_tighter (fun _ _ _ _ _ _ us hl => match us, hl with | [_, _, _, _, _], _ => rfl) (fun vs H Q E h => spT_len h) (fun f cdv A outer s H vs Q E hr h => ?_)
  have nd := sc_is_tighter.nd
  have hu := hu_of hr
  refine ⟨_, (pss_cons (ps_set (i := 5) nd rfl (Or.inl rfl) (pe_op op_sub (pe_op op_mulB (pe_ix (show IxR _ (rIxL Cl.K) from ix_list) (pe_ix (show IxR _ (rIxL Cl.K) from ix_list) (pv 0) (pv 3) (fun _ _ => rfl)) (pe_un un_neg pe_int) (fun _ _ => rfl)) (pe_ix (show IxR _ (rIxL Cl.K) from ix_list) (pe_ix (show IxR _ (rIxL Cl.K) from ix_list) (pv 0) (pv 4) (fun _ _ => rfl)) (pv 2) (fun _ _ => rfl))) (pe_op op_mulB (pe_ix (show IxR _ (rIxL Cl.K) from ix_list) (pe_ix (show IxR _ (rIxL Cl.K) from ix_list) (pv 0) (pv 4) (fun _ _ => rfl)) (pe_un un_neg pe_int) (fun _ _ => rfl)) (pe_ix (show IxR _ (rIxL Cl.K) from ix_list) (pe_ix (show IxR _ (rIxL Cl.K) from ix_list) (pv 0) (pv 3) (fun _ _ => rfl)) (pv 2) (fun _ _ => rfl)))))
  (pss_one (ps_ret (pe_or (pe_cmpR op_lt (pv 5) pe_int (nomark _)) (pe_one (pe_and (pe_cmpR op_eq (pv 5) pe_int (nomark _)) (pe_one (pe_cmpR op_lt (pe_ix (show IxR _ (rIxL Cl.K) from ix_list) (pv 1) (pv 3) (fun _ _ => rfl)) (pe_ix (show IxR _ (rIxL Cl.K) from ix_list) (pv 1) (pv 4) (fun _ _ => rfl)) (nomark _))))))))), ?_⟩
  exact run_fn (fun I d => (z_seq (z_asg (s_op os_sub (s_op os_mulB (s_op os_ixL' (s_op os_ixL' s_var s_var) (s_un (fun _ _ => .int _) (s_C fun _ => .int _))) (s_op os_ixL' (s_op os_ixL' s_var s_var) s_var)) (s_op os_mulB (s_op os_ixL' (s_op os_ixL' s_var s_var) (s_un (fun _ _ => .int _) (s_C fun _ => .int _))) (s_op os_ixL' (s_op os_ixL' s_var s_var) s_var))) g_name (.inl rfl))
  (z_ret (s_orV (s_op os_lt s_var (s_C fun _ => .int _)) (s_andV (s_op os_eq s_var (s_C fun _ => .int _)) (s_op os_lt (s_op os_ixL' s_var s_var) (s_op os_ixL' s_var s_var))))))) h

abbrev s_tightest : Stmt := top 34
theorem sc_tightest : FnScope ["table", "bound", "column", "tightest", "line"] ["table", "bound", "column"] (C8.fnScope s_tightest) := C8.fnScope_by (by decide +kernel)
def m_tightest : MS := (mSeq (mAsg (mC .non) (mgN 3))
  (mSeq (mFor (miR1 (mCons (mCB bLenQ (mCons (mVar 1) mNil)) mNil)) (mgN 4)
  (mIfS (mAnd (mTB (mOp (oI0 fun i j => .bl (decide (j < i))) (mOp oIxL (mOp oIxL (mVar 0) (mVar 4)) (mVar 2)) (mC (.int 0)))) (mOr (mTB (mOp (oNone true) (mVar 3) (mC .non))) (mTB (mCall 5 f_is_tighter [] (mCons (mVar 0) (mCons (mVar 1) (mCons (mVar 2) (mCons (mVar 4) (mCons (mVar 3) mNil))))))))) (mAsg (mVar 4) (mgN 3)) mNext))
  (mRet (mVar 3))))
def f_tightest : Fn := fnM 5 m_tightest
theorem c_tightest (B : Bl mg) (h_is_tighter : C8.Cal P w Cl.K mg base 1 "_is_tighter" (spT 5 f_is_tighter) []) (D : DefX Cl.K mg "_tightest" s_tightest) : C8.Cal P w Cl.K mg base 2 "_tightest" (spT 3 f_tightest) [] := by
  refine cal_of D sc_tightest (fun _ _ _ _ _ _ us hl => match us, hl with | [_, _, _], _ => rfl) (fun vs H Q E h => spT_len h) (fun f cdv A outer s H vs Q E hr h => ?_)
  have nd := sc_tightest.nd
  have hu := hu_of hr
  refine ⟨_, (pss_cons (ps_set (i := 3) nd rfl (Or.inl rfl) pe_non)
  (pss_cons (ps_for PassesOwn.never rfl (pi_range1 (by rfl) B.b_range (pa_cons (pe_callB call_len_seq' (by rfl) B.b_len (by decide +kernel) (pa_cons (pv 1) pa_nil)) pa_nil)) (pg_name (i := 4) nd rfl (by first | exact Or.inl rfl | exact Or.inr rfl))
  (pss_one (ps_if (PW.pt (pw_and (pt_cmpR op_gt (pe_ix (show IxR _ (rIxL Cl.K) from ix_list) (pe_ix (show IxR _ (rIxL Cl.K) from ix_list) (pv 0) (pv 4) (fun _ _ => rfl)) (pv 2) (fun _ _ => rfl)) pe_int (nomark _)) (pw_and1 (PW.pt (pw_or (pt_cmpR op_isNil (pv 3) pe_non (nomark _)) (pw_or1 (pt_val (C8.pe_c h_is_tighter hr (by decide) (by rfl) (pa_cons (pv 0) (pa_cons (pv 1) (pa_cons (pv 2) (pa_cons (pv 4) (pa_cons (pv 3) pa_nil))))))))))))) (pss_one (ps_set (i := 3) nd rfl (Or.inl rfl) (pv 4))) pss_nil)))
  (pss_one (ps_ret (pv 3))))), ?_⟩
  exact run_fn (fun I d => (z_seq (z_asg (s_C fun _ => .non) g_name (.inl rfl))
  (z_seq (z_for (i_range1 (s_cons (s_cb bs_lenQ (s_cons s_var s_nil)) s_nil)) g_name (.inl rfl)
  (z_if (t_and (t_b (s_op os_gt (s_op os_ixL' (s_op os_ixL' s_var s_var) s_var) (s_C fun _ => .int _))) (t_or (t_b (s_op os_isN s_var (s_C fun _ => .non))) (t_b (s_call (fun _ => .nil) (s_cons s_var (s_cons s_var (s_cons s_var (s_cons s_var (s_cons s_var s_nil))))))))) (z_asg s_var g_name (.inl rfl)) z_next))
  (z_ret s_var)))) h

abbrev s_turned_line : Stmt := top 37
theorem sc_turned_line : FnScope ["entries", "top", "scale", "column", "pivot", "factor", "turned", "entry", "other"] ["entries", "top", "scale", "column"] (C8.fnScope s_turned_line) := C8.fnScope_by (by decide +kernel)
def m_turned_line : MS := (mSeq (mAsg (mTup (mCons (mOp oIxL (mVar 1) (mVar 3)) (mCons (mOp oIxL (mVar 0) (mVar 3)) mNil))) (mgT 2 (mgCons (mgN 4) (mgCons (mgN 5) mgNil))))
  (mSeq (mAsgO (mLc (miZip2 (mCons (mVar 0) (mCons (mVar 1) mNil))) (mgT 2 (mgCons (mgN 7) (mgCons (mgN 8) mgNil))) mYes (mOp (oI (fun _ j => decide (0 < j) && decide (j.natAbs.log2 < 9000)) fun i j => .int (i / j)) (mOp (oI0 fun i j => .int (i - j)) (mOp (oI cMulB fun i j => .int (i * j)) (mVar 4) (mVar 7)) (mOp (oI cMulB fun i j => .int (i * j)) (mVar 5) (mVar 8))) (mVar 2)) [7, 8]) 6)
  (mSeq (mSetL 6 (mUn (fun i => .int (-i)) (mVar 5)) (mVar 3))
  (mFrz [6] (mRet (mVar 6))))))
def f_turned_line : Fn := fnM 9 m_turned_line
theorem c_turned_line (B : Bl mg)  (D : DefX Cl.K mg "_turned_line" s_turned_line) : C8.Cal P w Cl.K mg base 1 "_turned_line" (spT 4 f_turned_line) [] := by
  refine cal_of D sc_turned_line (fun _ _ _ _ _ _ us hl => match us, hl with | [_, _, _, _], _ => rfl) (fun vs H Q E h => spT_len h) (fun f cdv A outer s H vs Q E hr h => ?_)
  have nd := sc_turned_line.nd
  have hu := hu_of hr
  refine ⟨_, (pss_cons (ps_asg (pe_tupB (pa_cons (pe_ix (show IxR _ (rIxL Cl.K) from ix_list) (pv 1) (pv 3) (fun _ _ => rfl)) (pa_cons (pe_ix (show IxR _ (rIxL Cl.K) from ix_list) (pv 0) (pv 3) (fun _ _ => rfl)) pa_nil))) (pg_tup (n := 2) rfl (pgs_cons (pg_name (i := 4) nd rfl (by first | exact Or.inl rfl | exact Or.inr rfl)) (pgs_cons (pg_name (i := 5) nd rfl (by first | exact Or.inl rfl | exact Or.inr rfl)) pgs_nil))))
  (pss_cons (ps_setLc (i := 6) (own := [("entry", 7), ("other", 8)]) (g := (gTup Cl.K 2 (gCons (gName 7) (gCons (gName 8) gNil)))) rfl nd rfl rfl (sw_true rfl rfl rfl (by decide +kernel)) (show PI _ _ _ (ZN.iZip2 Cl.K _) from ZN.pi_zip2 (by rfl) B.b_zip (pa_cons (pv 0) (pa_cons (pv 1) pa_nil))) (blkOk_by (N := _) (by rfl)) (fun _ _ _ _ _ => (pg_tup (n := 2) rfl (pgs_cons (pg_name (i := 7) nd rfl (by first | exact Or.inl rfl | exact Or.inr rfl)) (pgs_cons (pg_name (i := 8) nd rfl (by first | exact Or.inl rfl | exact Or.inr rfl)) pgs_nil)))) (fun _ _ _ _ _ => pts_nil) (fun _ _ _ _ _ => (pe_op op_fdivW (pe_op op_sub (pe_op op_mulB (pv 4) (pv 7)) (pe_op op_mulB (pv 5) (pv 8))) (pv 2))))
  (pss_cons (ps_asg (pe_un un_neg (pv 5)) (pg_sub (pv 6) (pv 3) set_list))
  (pss_one (ps_ret (pv 6)))))), ?_⟩
  exact run_fn (fun I d => (z_seq (z_asg (s_tup (s_cons (s_op os_ixL' s_var s_var) (s_cons (s_op os_ixL' s_var s_var) s_nil))) (g_tup (g_cons g_name (g_cons g_name g_nil))) (.inl rfl))
  (z_seq (z_asgO (SOp'.so (o_lc (i_zip2 (s_cons s_var (s_cons s_var s_nil))) (g_tup (g_cons g_name (g_cons g_name g_nil))) (by decide) t_yes' (s_op os_fdiv (s_op os_sub (s_op os_mulB s_var s_var) (s_op os_mulB s_var s_var)) s_var))) (.inl rfl))
  (z_seq (z_setL (s_un (fun _ _ => .int _) s_var) s_var)
  (z_frz [6] (z_ret s_var)))))) h

abbrev s_turned : Stmt := top 36
theorem sc_turned : FnScope ["table", "scale", "line", "column", "top", "turned", "entries"] ["table", "scale", "line", "column"] (C8.fnScope s_turned) := C8.fnScope_by (by decide +kernel)
def m_turned : MS := (mSeq (mAsg (mOp oIxL (mVar 0) (mVar 2)) (mgN 4))
  (mSeq (mAsgO (mLc (miL (mVar 0)) (mgN 6) mYes (mCall 4 f_turned_line [] (mCons (mVar 6) (mCons (mVar 4) (mCons (mVar 1) (mCons (mVar 3) mNil))))) [6]) 5)
  (mSeq (mSetL 5 (mOp oCat (mOp oCat (mSlL (mVar 4) mNoPart (mPart (mVar 3))) (mLst (mCons (mVar 1) mNil))) (mSlL (mVar 4) (mPart (mOp (oI0 fun i j => .int (i + j)) (mVar 3) (mC (.int 1)))) mNoPart)) (mVar 2))
  (mFrz [5] (mRet (mVar 5))))))
def f_turned : Fn := fnM 7 m_turned
theorem c_turned (B : Bl mg) (h_turned_line : C8.Cal P w Cl.K mg base 1 "_turned_line" (spT 4 f_turned_line) []) (D : DefX Cl.K mg "_turned" s_turned) : C8.Cal P w Cl.K mg base 2 "_turned" (spT 4 f_turned) [] := by
  refine cal_of D sc_turned (fun _ _ _ _ _ _ us hl => match us, hl with | [_, _, _, _], _ => rfl) (fun vs H Q E h => spT_len h) (fun f cdv A outer s H vs Q E hr h => ?_)
  have nd := sc_turned.nd
  have hu := hu_of hr
  refine ⟨_, (pss_cons (ps_set (i := 4) nd rfl (Or.inr rfl) (pe_ix (show IxR _ (rIxL Cl.K) from ix_list) (pv 0) (pv 2) (fun _ _ => rfl)))
  (pss_cons (ps_setLc (i := 5) (own := [("entries", 6)]) (g := (gName 6)) rfl nd rfl rfl (sw_true rfl rfl rfl (by decide +kernel)) (show PI _ _ _ (iList Cl.K _) from pi_list (pv 0)) (blkOk_by (N := _) (by rfl)) (fun _ _ _ _ _ => (pg_name (i := 6) nd rfl (by first | exact Or.inl rfl | exact Or.inr rfl))) (fun _ _ _ _ _ => pts_nil) (fun _ _ _ _ _ => (C8.pe_c h_turned_line hr (by decide) (by rfl) (pa_cons (pv 6) (pa_cons (pv 4) (pa_cons (pv 1) (pa_cons (pv 3) pa_nil)))))))
  (pss_cons (ps_asg (pe_op op_cat (pe_op op_cat (pe_slice sl_list (pv 4) po_none (po_some (pv 3))) (pe_lst (pa_cons (pv 1) pa_nil))) (pe_slice sl_list (pv 4) (po_some (pe_op op_add (pv 3) pe_int)) po_none)) (pg_sub (pv 5) (pv 2) set_list))
  (pss_one (ps_ret (pv 5)))))), ?_⟩
  exact run_fn (fun I d => (z_seq (z_asg (s_op os_ixL' s_var s_var) g_name (.inl rfl))
  (z_seq (z_asgO (SOp'.so (o_lc (i_list s_var) g_name (by decide) t_yes' (s_call (fun _ => .nil) (s_cons s_var (s_cons s_var (s_cons s_var (s_cons s_var s_nil))))))) (.inl rfl))
  (z_seq (z_setL (SO.se (o_op on_cat (SO.se (o_op on_cat (SO.se (o_slL s_var so_none (so_part s_var))) (SO.se (o_lst (s_cons s_var s_nil))))) (SO.se (o_slL s_var (so_part (s_op os_add s_var (s_C fun _ => .int _))) so_none)))) s_var)
  (z_frz [5] (z_ret s_var)))))) h

abbrev s_best_table : Stmt := top 32
theorem sc_best_table : FnScope ["table", "free", "bound", "scale", "careful", "column", "line", "pivot"] ["table"] (C8.fnScope s_best_table) := C8.fnScope_by (by decide +kernel)
def m_best_table : MS := (mSeq (mAsgO (mLRg1 (mOp (oI0 fun i j => .int (i - j)) (mCB bLenQ (mCons (mOp oIxL (mVar 0) (mC (.int 0))) mNil)) (mC (.int 1)))) 1)
  (mSeq (mAsgO (mLendO 1 (mLRg2 (mCB bLenQ (mCons (mVar 1) mNil)) (mOp (oI0 fun i j => .int (i - j)) (mOp (oI0 fun i j => .int (i + j)) (mCB bLenQ (mCons (mVar 1) mNil)) (mCB bLenQ (mCons (mVar 0) mNil))) (mC (.int 1))))) 2)
  (mSeq (mAsg (mC (.int 1)) (mgN 3))
  (mSeq (mAsg (mC (.bl false)) (mgN 4))
  (mWhile 100000 (mTB (mC (.bl true))) (mSeq (mAsg (mLend 1 (mCall 3 f_gaining [] (mCons (mOp oIxL (mVar 0) (mUn (fun i => .int (-i)) (mC (.int 1)))) (mCons (mVar 1) (mCons (mVar 4) mNil))))) (mgN 5))
  (mSeq (mIfS (mTB (mOp (oNone true) (mVar 5) (mC .non))) (mFrz [1, 2] (mRet (mTup (mCons (mVar 0) (mCons (mVar 3) (mCons (mVar 1) (mCons (mVar 2) mNil))))))) mNext)
  (mSeq (mAsg (mLend 2 (mCall 3 f_tightest [] (mCons (mVar 0) (mCons (mVar 2) (mCons (mVar 5) mNil))))) (mgN 6))
  (mSeq (mAsg (mOp oEq (mOp oIxL (mOp oIxL (mVar 0) (mVar 6)) (mUn (fun i => .int (-i)) (mC (.int 1)))) (mC (.int 0))) (mgN 4))
  (mSeq (mAsg (mOp oIxL (mOp oIxL (mVar 0) (mVar 6)) (mVar 5)) (mgN 7))
  (mSeq (mAsg (mCall 4 f_turned [] (mCons (mVar 0) (mCons (mVar 3) (mCons (mVar 6) (mCons (mVar 5) mNil))))) (mgN 0))
  (mSeq (mAsg (mVar 7) (mgN 3))
  (mSwapI 1 2 (mLend 2 (mOp oIxL (mVar 2) (mVar 6))) (mLend 1 (mOp oIxL (mVar 1) (mVar 5))) (mVar 5) (mVar 6))))))))))))))
def f_best_table : Fn := fnM 8 m_best_table
theorem c_best_table (B : Bl mg) (h_gaining : C8.Cal P w Cl.K mg base 3 "_gaining" (spT 3 f_gaining) []) (h_tightest : C8.Cal P w Cl.K mg base 2 "_tightest" (spT 3 f_tightest) []) (h_turned : C8.Cal P w Cl.K mg base 2 "_turned" (spT 4 f_turned) []) (D : DefX Cl.K mg "_best_table" s_best_table) : C8.Cal P w Cl.K mg base 4 "_best_table" (spT 1 f_best_table) [] := by
  refine cal_of D sc_best_table (fun _ _ _ _ _ _ us hl => match us, hl with | [_], _ => rfl) (fun vs H Q E h => spT_len h) (fun f cdv A outer s H vs Q E hr h => ?_)
  have nd := sc_best_table.nd
  have hu := hu_of hr
  refine ⟨_, (pss_cons (ps_set (i := 1) nd rfl (Or.inl rfl) (pe_listRg rfl (by rfl) B.b_list (prg_1 (by rfl) B.b_range (pe_op op_sub (pe_callB call_len_seq' (by rfl) B.b_len (by decide +kernel) (pa_cons (pe_ix (show IxR _ (rIxL Cl.K) from ix_list) (pv 0) pe_int (fun _ _ => rfl)) pa_nil)) pe_int))))
  (pss_cons (ps_set (i := 2) nd rfl (Or.inl rfl) (pe_listRg rfl (by rfl) B.b_list (prg_2 (by rfl) B.b_range (pe_callB call_len_seq' (by rfl) B.b_len (by decide +kernel) (pa_cons (pv 1) pa_nil)) (pe_op op_sub (pe_op op_add (pe_callB call_len_seq' (by rfl) B.b_len (by decide +kernel) (pa_cons (pv 1) pa_nil)) (pe_callB call_len_seq' (by rfl) B.b_len (by decide +kernel) (pa_cons (pv 0) pa_nil))) pe_int))))
  (pss_cons (ps_set (i := 3) nd rfl (Or.inl rfl) pe_int)
  (pss_cons (ps_set (i := 4) nd rfl (Or.inl rfl) pe_bl)
  (pss_one (ps_while PassesOwn.never (pt_val pe_bl)
  (pss_cons (ps_set (i := 5) nd rfl (Or.inl rfl) (C8.pe_c h_gaining hr (by decide) (by rfl) (pa_cons (pe_ix (show IxR _ (rIxL Cl.K) from ix_list) (pv 0) (pe_un un_neg pe_int) (fun _ _ => rfl)) (pa_cons (pv 1) (pa_cons (pv 4) pa_nil)))))
  (pss_cons (ps_if (pt_cmpR op_isNil (pv 5) pe_non (nomark _)) (pss_one (ps_ret (pe_tupB (pa_cons (pv 0) (pa_cons (pv 3) (pa_cons (pv 1) (pa_cons (pv 2) pa_nil))))))) pss_nil)
  (pss_cons (ps_set (i := 6) nd rfl (Or.inl rfl) (C8.pe_c h_tightest hr (by decide) (by rfl) (pa_cons (pv 0) (pa_cons (pv 2) (pa_cons (pv 5) pa_nil)))))
  (pss_cons (ps_set (i := 4) nd rfl (Or.inl rfl) (pe_cmpR op_eq (pe_ix (show IxR _ (rIxL Cl.K) from ix_list) (pe_ix (show IxR _ (rIxL Cl.K) from ix_list) (pv 0) (pv 6) (fun _ _ => rfl)) (pe_un un_neg pe_int) (fun _ _ => rfl)) pe_int (nomark _)))
  (pss_cons (ps_set (i := 7) nd rfl (Or.inl rfl) (pe_ix (show IxR _ (rIxL Cl.K) from ix_list) (pe_ix (show IxR _ (rIxL Cl.K) from ix_list) (pv 0) (pv 6) (fun _ _ => rfl)) (pv 5) (fun _ _ => rfl)))
  (pss_cons (ps_set (i := 0) nd rfl (Or.inl rfl) (C8.pe_c h_turned hr (by decide) (by rfl) (pa_cons (pv 0) (pa_cons (pv 3) (pa_cons (pv 6) (pa_cons (pv 5) pa_nil))))))
  (pss_cons (ps_set (i := 3) nd rfl (Or.inl rfl) (pv 7))
  (pss_one (ps_asg (pe_tupB (pa_cons (pe_ix (show IxR _ (rIxL Cl.K) from ix_list) (pv 2) (pv 6) (fun _ _ => rfl)) (pa_cons (pe_ix (show IxR _ (rIxL Cl.K) from ix_list) (pv 1) (pv 5) (fun _ _ => rfl)) pa_nil))) (pg_tup (n := 2) rfl (pgs_cons (pg_sub (pv 1) (pv 5) set_list) (pgs_cons (pg_sub (pv 2) (pv 6) set_list) pgs_nil)))))))))))))))))), ?_⟩
  exact run_fn (fun I d => (z_seq (z_asgO (o_lrg1 (s_op os_sub (s_cb bs_lenQ (s_cons (s_op os_ixL' s_var (s_C fun _ => .int _)) s_nil)) (s_C fun _ => .int _))) (.inl rfl))
  (z_seq (z_asgO (o_lend 1 (o_lrg2 (s_cb bs_lenQ (s_cons s_var s_nil)) (s_op os_sub (s_op os_add (s_cb bs_lenQ (s_cons s_var s_nil)) (s_cb bs_lenQ (s_cons s_var s_nil))) (s_C fun _ => .int _)))) (.inl rfl))
  (z_seq (z_asg (s_C fun _ => .int _) g_name (.inl rfl))
  (z_seq (z_asg (s_C fun _ => .bl _) g_name (.inl rfl))
  (z_while _ (t_b (s_C fun _ => .bl _)) (z_seq (z_asg (s_lend 1 (s_call (fun _ => .nil) (s_cons (s_op os_ixL' s_var (s_un (fun _ _ => .int _) (s_C fun _ => .int _))) (s_cons s_var (s_cons s_var s_nil))))) g_name (.inl rfl))
  (z_seq (z_if (t_b (s_op os_isN s_var (s_C fun _ => .non))) (z_frz [1, 2] (z_ret (s_tup (s_cons s_var (s_cons s_var (s_cons s_var (s_cons s_var s_nil))))))) z_next)
  (z_seq (z_asg (s_lend 2 (s_call (fun _ => .nil) (s_cons s_var (s_cons s_var (s_cons s_var s_nil))))) g_name (.inl rfl))
  (z_seq (z_asg (s_op os_eq (s_op os_ixL' (s_op os_ixL' s_var s_var) (s_un (fun _ _ => .int _) (s_C fun _ => .int _))) (s_C fun _ => .int _)) g_name (.inl rfl))
  (z_seq (z_asg (s_op os_ixL' (s_op os_ixL' s_var s_var) s_var) g_name (.inl rfl))
  (z_seq (z_asg (s_call (fun _ => .nil) (s_cons s_var (s_cons s_var (s_cons s_var (s_cons s_var s_nil))))) g_name (.inl rfl))
  (z_seq (z_asg s_var g_name (.inl rfl))
  (z_swapI (s_lend 2 (s_op os_ixL' s_var s_var)) (s_lend 1 (s_op os_ixL' s_var s_var)) s_var s_var)))))))))))))) h

abbrev s_lowest : Stmt := top 29
theorem sc_lowest : FnScope ["numbers", "common", "number"] ["numbers"] (C8.fnScope s_lowest) := C8.fnScope_by (by decide +kernel)
def m_lowest : MS := (mSeq (mAsg (mC (.int 0)) (mgN 1))
  (mSeq (mFor (miL (mVar 0)) (mgN 2)
  (mAsg (mCB bGcd (mCons (mVar 1) (mCons (mVar 2) mNil))) (mgN 1)))
  (mRet (mCB bTuple (mCons (mLc (miL (mVar 0)) (mgN 2) mYes (mOp (oI (fun _ j => decide (0 < j) && decide (j.natAbs.log2 < 9000)) fun i j => .int (i / j)) (mVar 2) (mVar 1)) [2]) mNil)))))
def f_lowest : Fn := fnM 3 m_lowest
theorem c_lowest (B : Bl mg) (h_b_gcd : mg "gcd" = some (.builtin "math.gcd")) (D : DefX Cl.K mg "_lowest" s_lowest) : C8.Cal P w Cl.K mg base 1 "_lowest" (spT 1 f_lowest) [] := by
  refine cal_of D sc_lowest (fun _ _ _ _ _ _ us hl => match us, hl with | [_], _ => rfl) (fun vs H Q E h => spT_len h) (fun f cdv A outer s H vs Q E hr h => ?_)
  have nd := sc_lowest.nd
  have hu := hu_of hr
  refine ⟨_, (pss_cons (ps_set (i := 1) nd rfl (Or.inr rfl) pe_int)
  (pss_cons (ps_for PassesOwn.never rfl (show PI _ _ _ (iList Cl.K _) from pi_list (pv 0)) (pg_name (i := 2) nd rfl (by first | exact Or.inl rfl | exact Or.inr rfl))
  (pss_one (ps_set (i := 1) nd rfl (Or.inr rfl) (pe_callBfun cr_gcd (by rfl) h_b_gcd (pa_cons (pv 1) (pa_cons (pv 2) pa_nil))))))
  (pss_one (ps_ret (pe_callTy (show CallR _ _ (rTupB Cl.K) from call_tupB) (by rfl) B.b_tuple (by decide +kernel) (pa_cons (pe_lc (own := [("number", 2)]) (g := (gName 2)) rfl nd (show PI _ _ _ (iList Cl.K _) from pi_list (pv 0)) (blkOk_by (N := _) (by rfl)) (fun _ _ _ _ _ => (pg_name (i := 2) nd rfl (by first | exact Or.inl rfl | exact Or.inr rfl))) (fun _ _ _ _ _ => pts_nil) (fun _ _ _ _ _ => (pe_op op_fdivW (pv 2) (pv 1)))) pa_nil)))))), ?_⟩
  exact run_fn (fun I d => (z_seq (z_asg (s_C fun _ => .int _) g_name (.inl rfl))
  (z_seq (z_for (i_list s_var) g_name (.inl rfl)
  (z_asg (s_cb bs_gcd (s_cons s_var (s_cons s_var s_nil))) g_name (.inl rfl)))
  (z_ret (s_cb bs_tuple (s_cons (SO.se (SOp'.so (o_lc (i_list s_var) g_name (by decide) t_yes' (s_op os_fdiv s_var s_var)))) s_nil)))))) h

abbrev s_settled : Stmt := top 25
theorem sc_settled : FnScope ["matrix", "lift", "row", "table", "scale", "free", "bound", "many", "held", "number", "line", "costs", "cost", "columns", "rows", "total"] ["matrix"] (C8.fnScope s_settled) := C8.fnScope_by (by decide +kernel)
def m_settled : MS := (mSeq (mIfS (mNot (mTB (mCall 1 f_is_matrix [] (mCons (mVar 0) mNil)))) mNever mNext)
  (mSeq (mAsg (mOp (oI0 fun i j => .int (i - j)) (mC (.int 1)) (mCB bMin (mCons (mLc (miL (mVar 0)) (mgN 2) mYes (mCB bMin (mCons (mVar 2) mNil)) [2]) mNil))) (mgN 1))
  (mSeq (mAsg (mCall 1 f_best_table [] (mCons (mCall 2 f_first_table [] (mCons (mVar 0) (mCons (mVar 1) mNil))) mNil)) (mgT 4 (mgCons (mgN 3) (mgCons (mgN 4) (mgCons (mgN 5) (mgCons (mgN 6) mgNil))))))
  (mSeq (mAsg (mCB bLenQ (mCons (mVar 0) mNil)) (mgN 7))
  (mSeq (mAsg (mDc (miZip2 (mCons (mVar 6) (mCons (mVar 3) mNil))) (mgT 2 (mgCons (mgN 9) (mgCons (mgN 10) mgNil))) mYes (mVar 9) (mOp oIxL (mVar 10) (mUn (fun i => .int (-i)) (mC (.int 1)))) [9, 10]) (mgN 8))
  (mSeq (mAsg (mDc (miZip2 (mCons (mVar 5) (mCons (mOp oIxL (mVar 3) (mUn (fun i => .int (-i)) (mC (.int 1)))) mNil))) (mgT 2 (mgCons (mgN 9) (mgCons (mgN 12) mgNil))) mYes (mVar 9) (mVar 12) [9, 12]) (mgN 11))
  (mSeq (mAsg (mCall 1 f_lowest [] (mCons (mLc (miR2 (mCons (mVar 7) (mCons (mOp (oI0 fun i j => .int (i + j)) (mVar 7) (mCB bLenQ (mCons (mOp oIxL (mVar 0) (mC (.int 0))) mNil))) mNil))) (mgN 9) mYes (mDGet2 (mVar 11) (mVar 9) (mC (.int 0))) [9]) mNil)) (mgN 13))
  (mSeq (mAsg (mCall 1 f_lowest [] (mCons (mLc (miR1 (mCons (mVar 7) mNil)) (mgN 9) mYes (mDGet2 (mVar 8) (mVar 9) (mC (.int 0))) [9]) mNil)) (mgN 14))
  (mSeq (mAsg (mOp oIxL (mOp oIxL (mVar 3) (mUn (fun i => .int (-i)) (mC (.int 1)))) (mUn (fun i => .int (-i)) (mC (.int 1)))) (mgN 15))
  (mRet (mTup (mCons (mCall 1 f_lowest [] (mCons (mLst (mCons (mOp (oI0 fun i j => .int (i - j)) (mVar 4) (mOp (oI cMulB fun i j => .int (i * j)) (mVar 1) (mVar 15))) (mCons (mVar 15) mNil))) mNil)) (mCons (mVar 13) (mCons (mVar 14) mNil))))))))))))))
def f_settled : Fn := fnM 16 m_settled
theorem c_settled (B : Bl mg) (h_is_matrix : C8.Cal P w Cl.K mg base 3 "is_matrix" (spT 1 f_is_matrix) []) (h_first_table : C8.Cal P w Cl.K mg base 1 "_first_table" (spT 2 f_first_table) []) (h_best_table : C8.Cal P w Cl.K mg base 4 "_best_table" (spT 1 f_best_table) []) (h_lowest : C8.Cal P w Cl.K mg base 1 "_lowest" (spT 1 f_lowest) []) (D : DefX Cl.K mg "settled" s_settled) : C8.Cal P w Cl.K mg base 5 "settled" (spT 1 f_settled) [] := by
  refine cal_of D sc_settled (fun _ _ _ _ _ _ us hl => match us, hl with | [_], _ => rfl) (fun vs H Q E h => spT_len h) (fun f cdv A outer s H vs Q E hr h => ?_)
  have nd := sc_settled.nd
  have hu := hu_of hr
  refine ⟨_, (pss_cons (ps_if (pt_not (pt_val (C8.pe_c h_is_matrix hr (by decide) (by rfl) (pa_cons (pv 0) pa_nil)))) pss_never pss_nil)
  (pss_cons (ps_set (i := 1) nd rfl (Or.inl rfl) (pe_op op_sub pe_int (pe_callB (cr_min rfl) (by rfl) B.b_min (by decide +kernel) (pa_cons (pe_lc (own := [("row", 2)]) (g := (gName 2)) rfl nd (show PI _ _ _ (iList Cl.K _) from pi_list (pv 0)) (blkOk_by (N := _) (by rfl)) (fun _ _ _ _ _ => (pg_name (i := 2) nd rfl (by first | exact Or.inl rfl | exact Or.inr rfl))) (fun _ _ _ _ _ => pts_nil) (fun _ _ _ _ _ => (pe_callB (show CallR _ _ (rMin Cl.K) from (cr_min rfl)) (by rfl) B.b_min (by decide +kernel) (pa_cons (pv 2) pa_nil)))) pa_nil))))
  (pss_cons (ps_asg (C8.pe_c h_best_table hr (by decide) (by rfl) (pa_cons (C8.pe_c h_first_table hr (by decide) (by rfl) (pa_cons (pv 0) (pa_cons (pv 1) pa_nil))) pa_nil)) (pg_tup (n := 4) rfl (pgs_cons (pg_name (i := 3) nd rfl (by first | exact Or.inl rfl | exact Or.inr rfl)) (pgs_cons (pg_name (i := 4) nd rfl (by first | exact Or.inl rfl | exact Or.inr rfl)) (pgs_cons (pg_name (i := 5) nd rfl (by first | exact Or.inl rfl | exact Or.inr rfl)) (pgs_cons (pg_name (i := 6) nd rfl (by first | exact Or.inl rfl | exact Or.inr rfl)) pgs_nil))))))
  (pss_cons (ps_set (i := 7) nd rfl (Or.inl rfl) (pe_callB call_len_seq' (by rfl) B.b_len (by decide +kernel) (pa_cons (pv 0) pa_nil)))
  (pss_cons (ps_set (i := 8) nd rfl (Or.inr rfl) (pe_dc (own := [("number", 9), ("line", 10)]) (g := (gTup Cl.K 2 (gCons (gName 9) (gCons (gName 10) gNil)))) rfl nd (show PI _ _ _ (ZN.iZip2 Cl.K _) from ZN.pi_zip2 (by rfl) B.b_zip (pa_cons (pv 6) (pa_cons (pv 3) pa_nil))) (blkOk_by (N := _) (by rfl)) (fun _ _ _ _ _ => (pg_tup (n := 2) rfl (pgs_cons (pg_name (i := 9) nd rfl (by first | exact Or.inl rfl | exact Or.inr rfl)) (pgs_cons (pg_name (i := 10) nd rfl (by first | exact Or.inl rfl | exact Or.inr rfl)) pgs_nil)))) (fun _ _ _ _ _ => pts_nil) (fun _ _ _ _ _ => (pv 9)) (fun _ _ _ _ _ => (pe_ix (show IxR _ (rIxL Cl.K) from ix_list) (pv 10) (pe_un un_neg pe_int) (fun _ _ => rfl)))))
  (pss_cons (ps_set (i := 11) nd rfl (Or.inr rfl) (pe_dc (own := [("number", 9), ("cost", 12)]) (g := (gTup Cl.K 2 (gCons (gName 9) (gCons (gName 12) gNil)))) rfl nd (show PI _ _ _ (ZN.iZip2 Cl.K _) from ZN.pi_zip2 (by rfl) B.b_zip (pa_cons (pv 5) (pa_cons (pe_ix (show IxR _ (rIxL Cl.K) from ix_list) (pv 3) (pe_un un_neg pe_int) (fun _ _ => rfl)) pa_nil))) (blkOk_by (N := _) (by rfl)) (fun _ _ _ _ _ => (pg_tup (n := 2) rfl (pgs_cons (pg_name (i := 9) nd rfl (by first | exact Or.inl rfl | exact Or.inr rfl)) (pgs_cons (pg_name (i := 12) nd rfl (by first | exact Or.inl rfl | exact Or.inr rfl)) pgs_nil)))) (fun _ _ _ _ _ => pts_nil) (fun _ _ _ _ _ => (pv 9)) (fun _ _ _ _ _ => (pv 12))))
  (pss_cons (ps_set (i := 13) nd rfl (Or.inl rfl) (C8.pe_c h_lowest hr (by decide) (by rfl) (pa_cons (pe_lc (own := [("number", 9)]) (g := (gName 9)) rfl nd (pi_range2 (by rfl) B.b_range (pa_cons (pv 7) (pa_cons (pe_op op_add (pv 7) (pe_callB (show CallR _ _ (rLenQ Cl.K) from call_len_seq') (by rfl) B.b_len (by decide +kernel) (pa_cons (pe_ix (show IxR _ (rIxL Cl.K) from ix_list) (pv 0) pe_int (fun _ _ => rfl)) pa_nil))) pa_nil))) (blkOk_by (N := _) (by rfl)) (fun _ _ _ _ _ => (pg_name (i := 9) nd rfl (by first | exact Or.inl rfl | exact Or.inr rfl))) (fun _ _ _ _ _ => pts_nil) (fun _ _ _ _ _ => (pe_dget2 hu (pv 11) (pv 9) pe_int ⟨rfl, rfl, rfl, rfl⟩))) pa_nil)))
  (pss_cons (ps_set (i := 14) nd rfl (Or.inl rfl) (C8.pe_c h_lowest hr (by decide) (by rfl) (pa_cons (pe_lc (own := [("number", 9)]) (g := (gName 9)) rfl nd (pi_range1 (by rfl) B.b_range (pa_cons (pv 7) pa_nil)) (blkOk_by (N := _) (by rfl)) (fun _ _ _ _ _ => (pg_name (i := 9) nd rfl (by first | exact Or.inl rfl | exact Or.inr rfl))) (fun _ _ _ _ _ => pts_nil) (fun _ _ _ _ _ => (pe_dget2 hu (pv 8) (pv 9) pe_int ⟨rfl, rfl, rfl, rfl⟩))) pa_nil)))
  (pss_cons (ps_set (i := 15) nd rfl (Or.inl rfl) (pe_ix (show IxR _ (rIxL Cl.K) from ix_list) (pe_ix (show IxR _ (rIxL Cl.K) from ix_list) (pv 3) (pe_un un_neg pe_int) (fun _ _ => rfl)) (pe_un un_neg pe_int) (fun _ _ => rfl)))
  (pss_one (ps_ret (pe_tupB (pa_cons (C8.pe_c h_lowest hr (by decide) (by rfl) (pa_cons (pe_lst (pa_cons (pe_op op_sub (pv 4) (pe_op op_mulB (pv 1) (pv 15))) (pa_cons (pv 15) pa_nil))) pa_nil)) (pa_cons (pv 13) (pa_cons (pv 14) pa_nil))))))))))))))), ?_⟩
  exact run_fn (fun I d => (z_seq (z_if (t_not (t_b (s_call (fun _ => .nil) (s_cons s_var s_nil)))) z_never' z_next)
  (z_seq (z_asg (s_op os_sub (s_C fun _ => .int _) (s_cb bs_min (s_cons (SO.se (SOp'.so (o_lc (i_list s_var) g_name (by decide) t_yes' (s_cb bs_min (s_cons s_var s_nil))))) s_nil))) g_name (.inl rfl))
  (z_seq (z_asg (s_call (fun _ => .nil) (s_cons (s_call (fun _ => .nil) (s_cons s_var (s_cons s_var s_nil))) s_nil)) (g_tup (g_cons g_name (g_cons g_name (g_cons g_name (g_cons g_name g_nil))))) (.inl rfl))
  (z_seq (z_asg (s_cb bs_lenQ (s_cons s_var s_nil)) g_name (.inl rfl))
  (z_seq (z_asg (SO.se (SOp'.so (o_dc (i_zip2 (s_cons s_var (s_cons s_var s_nil))) (g_tup (g_cons g_name (g_cons g_name g_nil))) (by decide) t_yes' s_var (s_op os_ixL' s_var (s_un (fun _ _ => .int _) (s_C fun _ => .int _)))))) g_name (.inl rfl))
  (z_seq (z_asg (SO.se (SOp'.so (o_dc (i_zip2 (s_cons s_var (s_cons (s_op os_ixL' s_var (s_un (fun _ _ => .int _) (s_C fun _ => .int _))) s_nil))) (g_tup (g_cons g_name (g_cons g_name g_nil))) (by decide) t_yes' s_var s_var))) g_name (.inl rfl))
  (z_seq (z_asg (s_call (fun _ => .nil) (s_cons (SO.se (SOp'.so (o_lc (i_range2 (s_cons s_var (s_cons (s_op os_add s_var (s_cb bs_lenQ (s_cons (s_op os_ixL' s_var (s_C fun _ => .int _)) s_nil))) s_nil))) g_name (by decide) t_yes' (s_dget2 s_var s_var (s_C fun _ => .int _))))) s_nil)) g_name (.inl rfl))
  (z_seq (z_asg (s_call (fun _ => .nil) (s_cons (SO.se (SOp'.so (o_lc (i_range1 (s_cons s_var s_nil)) g_name (by decide) t_yes' (s_dget2 s_var s_var (s_C fun _ => .int _))))) s_nil)) g_name (.inl rfl))
  (z_seq (z_asg (s_op os_ixL' (s_op os_ixL' s_var (s_un (fun _ _ => .int _) (s_C fun _ => .int _))) (s_un (fun _ _ => .int _) (s_C fun _ => .int _))) g_name (.inl rfl))
  (z_ret (s_tup (s_cons (s_call (fun _ => .nil) (s_cons (SO.se (o_lst (s_cons (s_op os_sub s_var (s_op os_mulB s_var s_var)) (s_cons s_var s_nil)))) s_nil)) (s_cons s_var (s_cons s_var s_nil))))))))))))))) h

abbrev s_weigh_up : Stmt := top 26
theorem sc_weigh_up : FnScope ["columns", "many", "number", "column", "entry", "rows", "picked", "sums", "value", "weights", "row"] ["columns", "many"] (C8.fnScope s_weigh_up) := C8.fnScope_by (by decide +kernel)
def m_weigh_up : MS := (mSeq (mFor (miEnum (mCons (mVar 0) mNil)) (mgT 2 (mgCons (mgN 2) (mgCons (mgN 3) mgNil)))
  (mIfS (mTB (mCB bAll (mCons (mLc (miL (mVar 3)) (mgN 4) mYes (mOp (oI0 fun i j => .bl (decide (j ≤ i))) (mVar 4) (mC (.int 0))) [4]) mNil))) (mRet (mTup (mCons (mCall 2 f_spread [] (mCons (mDisp [((mVar 2), (mC (.int 1)))]) (mCons (mCB bLenQ (mCons (mVar 0) mNil)) mNil))) (mCons (mC .non) mNil)))) mNext))
  (mSeq (mAsg (mOp oRepT (mTup (mCons (mC (.int 1)) mNil)) (mVar 1)) (mgN 5))
  (mSeq (mAsgO (mLst mNil) 6)
  (mWhile 100000 (mTB (mC (.bl true))) (mSeq (mAsg (mLc (miL (mVar 0)) (mgN 3) mYes (mCall 2 f_weighed [] (mCons (mVar 5) (mCons (mVar 3) mNil))) [3]) (mgN 7))
  (mSeq (mIfS (mTB (mOp (oI0 fun i j => .bl (decide (i < j))) (mCKw bMaxD (mCons (mVar 7) mNil) (mCons (mUn (fun i => .int (-i)) (mC (.int 1))) mNil)) (mC (.int 0)))) (mRet (mTup (mCons (mC .non) (mCons (mVar 5) mNil)))) mNext)
  (mSeq (mAppend 6 (mIndex (mVar 7) (mCons (mCB bMax (mCons (mVar 7) mNil)) mNil)))
  (mSeq (mAsg (mLend 6 (mCall 1 f_settled [] (mCons (mLc (miR1 (mCons (mVar 1) mNil)) (mgN 10) mYes (mLc (miL (mVar 6)) (mgN 2) mYes (mOp oIxL (mOp oIxL (mVar 0) (mVar 2)) (mVar 10)) [2]) [10]) mNil))) (mgT 3 (mgCons (mgN 8) (mgCons (mgN 9) (mgCons (mgN 5) mgNil)))))
  (mIfS (mTB (mOp (oI0 fun i j => .bl (decide (j ≤ i))) (mOp oIxT (mVar 8) (mC (.int 0))) (mC (.int 0)))) (mFrz [6] (mRet (mTup (mCons (mCall 2 f_spread [] (mCons (mDictZ (mCons (mVar 6) (mCons (mVar 9) mNil))) (mCons (mCB bLenQ (mCons (mVar 0) mNil)) mNil))) (mCons (mC .non) mNil))))) mNext)))))))))
def f_weigh_up : Fn := fnM 11 m_weigh_up
theorem c_weigh_up (B : Bl mg) (h_spread : C8.Cal P w Cl.K mg base 1 "_spread" (spT 2 f_spread) []) (h_weighed : C8.Cal P w Cl.K mg base 1 "weighed" (spT 2 f_weighed) []) (h_settled : C8.Cal P w Cl.K mg base 5 "settled" (spT 1 f_settled) []) (D : DefX Cl.K mg "weigh_up" s_weigh_up) : C8.Cal P w Cl.K mg base 6 "weigh_up" (spT 2 f_weigh_up) [] := by
  refine cal_of D sc_weigh_up (fun _ _ _ _ _ _ us hl => match us, hl with | [_, _], _ => rfl) (fun vs H Q E h => spT_len h) (fun f cdv A outer s H vs Q E hr h => ?_)
  have nd := sc_weigh_up.nd
  have hu := hu_of hr
  refine ⟨_, (pss_cons (ps_for PassesOwn.never rfl (show PI _ _ _ (iEnum Cl.K _) from pi_enum (by rfl) B.b_enumerate (pa_cons (pv 0) pa_nil)) (pg_tup (n := 2) rfl (pgs_cons (pg_name (i := 2) nd rfl (by first | exact Or.inl rfl | exact Or.inr rfl)) (pgs_cons (pg_name (i := 3) nd rfl (by first | exact Or.inl rfl | exact Or.inr rfl)) pgs_nil)))
  (pss_one (ps_if (pt_val (pe_callB (cr_all rfl) (by rfl) B.b_all (by decide +kernel) (pa_cons (pe_lc (own := [("entry", 4)]) (g := (gName 4)) rfl nd (show PI _ _ _ (iList Cl.K _) from pi_list (pv 3)) (blkOk_by (N := _) (by rfl)) (fun _ _ _ _ _ => (pg_name (i := 4) nd rfl (by first | exact Or.inl rfl | exact Or.inr rfl))) (fun _ _ _ _ _ => pts_nil) (fun _ _ _ _ _ => (pe_cmpR op_ge (pv 4) pe_int (nomark _)))) pa_nil))) (pss_one (ps_ret (pe_tupB (pa_cons (C8.pe_c h_spread hr (by decide) (by rfl) (pa_cons (pe_disp (pps_cons (pv 2) pe_int pps_nil) (by rfl) (by rfl) (fun z => by cases z) (by decide)) (pa_cons (pe_callB call_len_seq' (by rfl) B.b_len (by decide +kernel) (pa_cons (pv 0) pa_nil)) pa_nil))) (pa_cons pe_non pa_nil))))) pss_nil)))
  (pss_cons (ps_set (i := 5) nd rfl (Or.inr rfl) (pe_op (show OpR _ (binaryOp .Mult) (_root_.Tm.rRepB Cl.K) from _root_.Tm.op_repB) (pe_tupB (pa_cons pe_int pa_nil)) (pv 1)))
  (pss_cons (ps_set (i := 6) nd rfl (Or.inr rfl) (pe_lst pa_nil))
  (pss_one (ps_while PassesOwn.never (pt_val pe_bl)
  (pss_cons (ps_setLc (i := 7) (own := [("column", 3)]) (g := (gName 3)) rfl nd rfl rfl (sw_true rfl rfl rfl (by decide +kernel)) (show PI _ _ _ (iList Cl.K _) from pi_list (pv 0)) (blkOk_by (N := _) (by rfl)) (fun _ _ _ _ _ => (pg_name (i := 3) nd rfl (by first | exact Or.inl rfl | exact Or.inr rfl))) (fun _ _ _ _ _ => pts_nil) (fun _ _ _ _ _ => (C8.pe_c h_weighed hr (by decide) (by rfl) (pa_cons (pv 5) (pa_cons (pv 3) pa_nil)))))
  (pss_cons (ps_if (pt_cmpR op_lt (pe_callBK (ks := [Str.ofString "default"]) (cr_maxd rfl) (by rfl) B.b_max (by decide +kernel) (pa_cons (pv 7) pa_nil) (pk_cons (pe_un un_neg pe_int) pk_nil)) pe_int (nomark _)) (pss_one (ps_ret (pe_tupB (pa_cons pe_non (pa_cons (pv 5) pa_nil))))) pss_nil)
  (pss_cons (ps_expr (pe_bm PySem.F.plainAttrs_list PySem.F.slot_list_append PySem.F.type_list_append mt_append (pv 6) (pa_cons (pe_bm PySem.F.plainAttrs_list PySem.F.slot_list_index PySem.F.type_list_index mt_index (pv 7) (pa_cons (pe_callB (cr_max rfl) (by rfl) B.b_max (by decide +kernel) (pa_cons (pv 7) pa_nil)) pa_nil)) pa_nil)))
  (pss_cons (ps_asg (C8.pe_c h_settled hr (by decide) (by rfl) (pa_cons (pe_lc (own := [("row", 10)]) (g := (gName 10)) rfl nd (pi_range1 (by rfl) B.b_range (pa_cons (pv 1) pa_nil)) (blkOk_by (N := _) (by rfl)) (fun _ _ _ _ _ => (pg_name (i := 10) nd rfl (by first | exact Or.inl rfl | exact Or.inr rfl))) (fun _ _ _ _ _ => pts_nil) (fun _ _ _ _ _ => (pe_lc (own := [("number", 2)]) (g := (gName 2)) rfl nd (show PI _ _ _ (iList Cl.K _) from pi_list (pv 6)) (blkOk_by (N := _) (by rfl)) (fun _ _ _ _ _ => (pg_name (i := 2) nd rfl (by first | exact Or.inl rfl | exact Or.inr rfl))) (fun _ _ _ _ _ => pts_nil) (fun _ _ _ _ _ => (pe_ix (show IxR _ (rIxL Cl.K) from ix_list) (pe_ix (show IxR _ (rIxL Cl.K) from ix_list) (pv 0) (pv 2) (fun _ _ => rfl)) (pv 10) (fun _ _ => rfl)))))) pa_nil)) (pg_tup (n := 3) rfl (pgs_cons (pg_name (i := 8) nd rfl (by first | exact Or.inl rfl | exact Or.inr rfl)) (pgs_cons (pg_name (i := 9) nd rfl (by first | exact Or.inl rfl | exact Or.inr rfl)) (pgs_cons (pg_name (i := 5) nd rfl (by first | exact Or.inl rfl | exact Or.inr rfl)) pgs_nil)))))
  (pss_one (ps_if (pt_cmpR op_ge (pe_ix (show IxR _ (rIxT Cl.K) from ix_tup) (pv 8) pe_int (fun _ _ => rfl)) pe_int (nomark _)) (pss_one (ps_ret (pe_tupB (pa_cons (C8.pe_c h_spread hr (by decide) (by rfl) (pa_cons (ZN.pe_dictZ rfl (by rfl) B.b_zip (by rfl) B.b_dict (pa_cons (pv 6) (pa_cons (pv 9) pa_nil))) (pa_cons (pe_callB call_len_seq' (by rfl) B.b_len (by decide +kernel) (pa_cons (pv 0) pa_nil)) pa_nil))) (pa_cons pe_non pa_nil))))) pss_nil))))))))))), ?_⟩
  exact run_fn (fun I d => (z_seq (z_for (i_enum (s_cons s_var s_nil)) (g_tup (g_cons g_name (g_cons g_name g_nil))) (.inl rfl)
  (z_if (t_b (s_cb bs_all (s_cons (SO.se (SOp'.so (o_lc (i_list s_var) g_name (by decide) t_yes' (s_op os_ge s_var (s_C fun _ => .int _))))) s_nil))) (z_ret (s_tup (s_cons (s_call (fun _ => .nil) (s_cons (SO.se (o_disp (.cons s_var (s_C fun _ => .int _) .nil))) (s_cons (s_cb bs_lenQ (s_cons s_var s_nil)) s_nil))) (s_cons (s_C fun _ => .non) s_nil)))) z_next))
  (z_seq (z_asg (s_op os_repT (s_tup (s_cons (s_C fun _ => .int _) s_nil)) s_var) g_name (.inl rfl))
  (z_seq (z_asgO (o_lst s_nil) (.inl rfl))
  (z_while _ (t_b (s_C fun _ => .bl _)) (z_seq (z_asg (SO.se (SOp'.so (o_lc (i_list s_var) g_name (by decide) t_yes' (s_call (fun _ => .nil) (s_cons s_var (s_cons s_var s_nil)))))) g_name (.inl rfl))
  (z_seq (z_if (t_b (s_op os_lt (s_maxD (s_cons s_var s_nil) (s_cons (s_un (fun _ _ => .int _) (s_C fun _ => .int _)) s_nil)) (s_C fun _ => .int _))) (z_ret (s_tup (s_cons (s_C fun _ => .non) (s_cons s_var s_nil)))) z_next)
  (z_seq (z_append (s_index s_var (s_cons (s_cb bs_max (s_cons s_var s_nil)) s_nil)))
  (z_seq (z_asg (s_lend 6 (s_call (fun _ => .nil) (s_cons (SO.se (SOp'.so (o_lc (i_range1 (s_cons s_var s_nil)) g_name (by decide) t_yes' (SO.se (SOp'.so (o_lc (i_list s_var) g_name (by decide) t_yes' (s_op os_ixL' (s_op os_ixL' s_var s_var) s_var))))))) s_nil))) (g_tup (g_cons g_name (g_cons g_name (g_cons g_name g_nil)))) (.inl rfl))
  (z_if (t_b (s_op os_ge (s_op os_ixT' s_var (s_C fun _ => .int _)) (s_C fun _ => .int _))) (z_frz [6] (z_ret (s_tup (s_cons (s_call (fun _ => .nil) (s_cons (SO.se (o_dictZ (s_cons s_var (s_cons s_var s_nil)))) (s_cons (s_cb bs_lenQ (s_cons s_var s_nil)) s_nil))) (s_cons (s_C fun _ => .non) s_nil))))) z_next)))))))))) h

abbrev s_mixture : Stmt := top 57
theorem sc_mixture : FnScope ["chain", "chains"] ["chain", "chains"] (C8.fnScope s_mixture) := C8.fnScope_by (by decide +kernel)
def m_mixture : MS := (mRet (mOp oIxT (mCall 2 f_weigh_up [] (mCons (mCall 2 f_all_parts_ahead [] (mCons (mVar 1) (mCons (mVar 0) mNil))) (mCons (mCB bLenQ (mCons (mVar 0) mNil)) mNil))) (mC (.int 0))))
def f_mixture : Fn := fnM 2 m_mixture
theorem c_mixture (B : Bl mg) (h_all_parts_ahead : C8.Cal P w Cl.K mg base 2 "_all_parts_ahead" (spT 2 f_all_parts_ahead) []) (h_weigh_up : C8.Cal P w Cl.K mg base 6 "weigh_up" (spT 2 f_weigh_up) []) (D : DefX Cl.K mg "mixture" s_mixture) : C8.Cal P w Cl.K mg base 7 "mixture" (spT 2 f_mixture) [] := by
  refine cal_of D sc_mixture (fun _ _ _ _ _ _ us hl => match us, hl with | [_, _], _ => rfl) (fun vs H Q E h => spT_len h) (fun f cdv A outer s H vs Q E hr h => ?_)
  have nd := sc_mixture.nd
  have hu := hu_of hr
  refine ⟨_, (pss_one (ps_ret (pe_ix (show IxR _ (rIxT Cl.K) from ix_tup) (C8.pe_c h_weigh_up hr (by decide) (by rfl) (pa_cons (C8.pe_c h_all_parts_ahead hr (by decide) (by rfl) (pa_cons (pv 1) (pa_cons (pv 0) pa_nil))) (pa_cons (pe_callB call_len_seq' (by rfl) B.b_len (by decide +kernel) (pa_cons (pv 0) pa_nil)) pa_nil))) pe_int (fun _ _ => rfl)))), ?_⟩
  exact run_fn (fun I d => (z_ret (s_op os_ixT' (s_call (fun _ => .nil) (s_cons (s_call (fun _ => .nil) (s_cons s_var (s_cons s_var s_nil))) (s_cons (s_cb bs_lenQ (s_cons s_var s_nil)) s_nil))) (s_C fun _ => .int _)))) h

abbrev s_unbeaten : Stmt := top 61
theorem sc_unbeaten : FnScope ["chains", "left", "chain", "others", "other"] ["chains"] (C8.fnScope s_unbeaten) := C8.fnScope_by (by decide +kernel)
def m_unbeaten : MS := (mSeq (mAsg (mSortSet (mVar 0)) (mgN 1))
  (mSeq (mFor (miL (mCB bList (mCons (mVar 1) mNil))) (mgN 2)
  (mSeq (mAsg (mLc (miL (mVar 1)) (mgN 4) (mTB (mOp oNeD (mVar 4) (mVar 2))) (mVar 4) [4]) (mgN 3))
  (mIfS (mTB (mOp (oNone false) (mCall 2 f_mixture [] (mCons (mVar 2) (mCons (mVar 3) mNil))) (mC .non))) (mAsg (mVar 3) (mgN 1)) mNext)))
  (mRet (mVar 1))))
def f_unbeaten : Fn := fnM 5 m_unbeaten
theorem c_unbeaten (B : Bl mg) (h_mixture : C8.Cal P w Cl.K mg base 7 "mixture" (spT 2 f_mixture) []) (D : DefX Cl.K mg "_unbeaten" s_unbeaten) : C8.Cal P w Cl.K mg base 8 "_unbeaten" (spT 1 f_unbeaten) [] := by
  refine cal_of D sc_unbeaten (fun _ _ _ _ _ _ us hl => match us, hl with | [_], _ => rfl) (fun vs H Q E h => spT_len h) (fun f cdv A outer s H vs Q E hr h => ?_)
  have nd := sc_unbeaten.nd
  have hu := hu_of hr
  refine ⟨_, (pss_cons (ps_set (i := 1) nd rfl (Or.inl rfl) (pe_sortSet rfl (hu64 hr) (by rfl) B.b_sorted (by rfl) B.b_set (pv 0)))
  (pss_cons (ps_for PassesOwn.never rfl (show PI _ _ _ (iList Cl.K _) from pi_list (pe_callTy call_list_of' (by rfl) B.b_list (by decide +kernel) (pa_cons (pv 1) pa_nil))) (pg_name (i := 2) nd rfl (by first | exact Or.inl rfl | exact Or.inr rfl))
  (pss_cons (ps_setLc (i := 3) (own := [("other", 4)]) (g := (gName 4)) rfl nd rfl rfl (sw_true rfl rfl rfl (by decide +kernel)) (show PI _ _ _ (iList Cl.K _) from pi_list (pv 1)) (blkOk_by (N := _) (by rfl)) (fun _ _ _ _ _ => (pg_name (i := 4) nd rfl (by first | exact Or.inl rfl | exact Or.inr rfl))) (fun _ _ _ _ _ => (pts_one (pt_cmpR (show OpR _ (compareOp .NotEq) (rNeD Cl.K) from op_neD (hu64 hr)) (pv 4) (pv 2) (nomark _)))) (fun _ _ _ _ _ => (pv 4)))
  (pss_one (ps_if (pt_cmpR op_notNil (C8.pe_c h_mixture hr (by decide) (by rfl) (pa_cons (pv 2) (pa_cons (pv 3) pa_nil))) pe_non (nomark _)) (pss_one (ps_set (i := 1) nd rfl (Or.inl rfl) (pv 3))) pss_nil))))
  (pss_one (ps_ret (pv 1))))), ?_⟩
  exact run_fn (fun I d => (z_seq (z_asg (SO.se (o_sortSet s_var)) g_name (.inl rfl))
  (z_seq (z_for (i_list (SO.se (o_cb bn_list (s_cons s_var s_nil)))) g_name (.inl rfl)
  (z_seq (z_asg (SO.se (SOp'.so (o_lc (i_list s_var) g_name (by decide) (t_b (s_op os_neD s_var s_var)) s_var))) g_name (.inl rfl))
  (z_if (t_b (s_op os_notN (s_call (fun _ => .nil) (s_cons s_var (s_cons s_var s_nil))) (s_C fun _ => .non))) (z_asg s_var g_name (.inl rfl)) z_next)))
  (z_ret s_var)))) h

abbrev s_Ends___init__ : Stmt := inClass (top 63) 0
theorem sc_Ends___init__ : FnScope ["self", "chains"] ["self", "chains"] (C8.fnScope s_Ends___init__) := C8.fnScope_by (by decide +kernel)
def m_Ends___init__ : MS := (mSeq (mIfS (mNot (mTB (mCall 1 f_are_chains [] (mCons (mVar 1) mNil)))) mNever mNext)
  (mSFld 0 6 (Str.ofString "_chains") (mCall 1 f_unbeaten [] (mCons (mVar 1) mNil))))
def f_Ends___init__ : Fn := fnI 2 6 m_Ends___init__
theorem ok_Ends___init__ (B : Bl mg) (h_are_chains : C8.Cal P w Cl.K mg base 4 "_are_chains" (spT 1 f_are_chains) []) (h_unbeaten : C8.Cal P w Cl.K mg base 8 "_unbeaten" (spT 1 f_unbeaten) []) (h_cl_Ends : Cls Cl.K (Cl.ad 6)) (h_na_Ends__chains : NoAttr Cl.K (Cl.ad 6) (Str.ofString "_chains")) {f : Addr} {fd : FuncData} {dvs : List V} {kws : List (Str × V)} (F : FunD Cl.K "__init__" "Ends.__init__" (C8.fnArgs s_Ends___init__) (C8.fnBody s_Ends___init__) (C8.fnScope s_Ends___init__) dvs kws f fd) : FnOk P w Cl.K mg base C8.CX0 9 f fd ["self", "chains"] (spI 6 1 f_Ends___init__) := by
  refine fnD F sc_Ends___init__ (fun vs H Q E h => spI_len h) (fun cdv A outer s H vs Q E hr h => ?_)
  have nd := sc_Ends___init__.nd
  have hu := hu_of hr
  refine ⟨_, (pss_cons (ps_if (pt_not (pt_val (C8.pe_c h_are_chains hr (by decide) (by rfl) (pa_cons (pv 1) pa_nil)))) pss_never pss_nil)
  (pss_one (ps_fld (pv 0) (C8.pe_c h_unbeaten hr (by decide) (by rfl) (pa_cons (pv 1) pa_nil)) rfl))), ?_⟩
  exact run_init (fun I d => (z_seq (z_if (t_not (t_b (s_call (fun _ => .nil) (s_cons s_var s_nil)))) z_never' z_next)
  (z_sfld h_cl_Ends h_na_Ends__chains (s_call (fun _ => .nil) (s_cons s_var s_nil))))) (by decide) h

abbrev s_Ends_names : Stmt := inClass (top 63) 2
theorem sc_Ends_names : FnScope ["self", "chain", "name", "_"] ["self"] (C8.fnScope s_Ends_names) := C8.fnScope_by (by decide +kernel)
def m_Ends_names : MS := (mRet (mSortSetS (mSc2 (miL (mFld 6 (Str.ofString "_chains") (mVar 0))) (mgN 1) (miT (mVar 1)) (mgT 2 (mgCons (mgN 2) (mgCons (mgN 3) mgNil))) (mVar 2) [1, 2, 3] [2, 3])))
def f_Ends_names : Fn := fnM 4 m_Ends_names
theorem ok_Ends_names (B : Bl mg) (h_cl_Ends : Cls Cl.K (Cl.ad 6)) (h_na_Ends__chains : NoAttr Cl.K (Cl.ad 6) (Str.ofString "_chains")) {g : Addr} {fd : FuncData} (F : C8.Fun Cl.K "names" "Ends.names" s_Ends_names g fd) : FnOk P w Cl.K mg base C8.CX0 1 g fd ["self"] (spT 1 f_Ends_names) := by
  refine C8.fn0 F sc_Ends_names (fun vs H Q E h => spT_len h) (fun cdv A outer s H vs Q E hr h => ?_)
  have nd := sc_Ends_names.nd
  have hu := hu_of hr
  refine ⟨_, (pss_one (ps_ret (pe_sortSc2 (own := [("chain", 1), ("name", 2), ("_", 3)]) (vs1 := [2, 3]) (g := (gName 1)) (g1 := (gTup Cl.K 2 (gCons (gName 2) (gCons (gName 3) gNil)))) rfl (hu64 hr) (by rfl) B.b_sorted nd (show PI _ _ _ (iList Cl.K _) from pi_list (pe_fld (pv 0) rfl)) (blkOk_by (N := _) (by rfl)) (by decide) (fun _ _ _ _ _ => (pg_name (i := 1) nd rfl (by first | exact Or.inl rfl | exact Or.inr rfl))) (fun _ _ _ _ _ => (show PI _ _ _ (iTup Cl.K _) from pi_tup (pv 1))) (fun _ _ _ _ _ => (pg_tup (n := 2) rfl (pgs_cons (pg_name (i := 2) nd rfl (by first | exact Or.inl rfl | exact Or.inr rfl)) (pgs_cons (pg_name (i := 3) nd rfl (by first | exact Or.inl rfl | exact Or.inr rfl)) pgs_nil)))) (fun _ _ _ _ _ => (pv 2))))), ?_⟩
  exact run_fn (fun I d => (z_ret (SO.se (o_sortSc2 (i_list (s_fld h_cl_Ends h_na_Ends__chains s_var)) g_name (by decide) (i_tup s_var) (g_tup (g_cons g_name (g_cons g_name g_nil))) (by decide) s_var)))) h

abbrev s_is_count : Stmt := top 11
theorem sc_is_count : FnScope ["value"] ["value"] (C8.fnScope s_is_count) := C8.fnScope_by (by decide +kernel)
def m_is_count : MS := (mRet (mAndV (mCall 1 f_is_int [] (mCons (mVar 0) mNil)) (mOp (oI0 fun i j => .bl (decide (j ≤ i))) (mVar 0) (mC (.int 0)))))
def f_is_count : Fn := fnM 1 m_is_count
theorem c_is_count (B : Bl mg) (h_is_int : C8.Cal P w Cl.K mg base 1 "is_int" (spT 1 f_is_int) []) (D : DefX Cl.K mg "is_count" s_is_count) : C8.Cal P w Cl.K mg base 2 "is_count" (spT 1 f_is_count) [] := by
  refine cal_of D sc_is_count (fun _ _ _ _ _ _ us hl => match us, hl with | [_], _ => rfl) (fun vs H Q E h => spT_len h) (fun f cdv A outer s H vs Q E hr h => ?_)
  have nd := sc_is_count.nd
  have hu := hu_of hr
  refine ⟨_, (pss_one (ps_ret (pe_and (C8.pe_c h_is_int hr (by decide) (by rfl) (pa_cons (pv 0) pa_nil)) (pe_one (pe_cmpR op_ge (pv 0) pe_int (nomark _)))))), ?_⟩
  exact run_fn (fun I d => (z_ret (s_andV (s_call (fun _ => .nil) (s_cons s_var s_nil)) (s_op os_ge s_var (s_C fun _ => .int _))))) h

abbrev s_is_range : Stmt := top 48
theorem sc_is_range : FnScope ["value"] ["value"] (C8.fnScope s_is_range) := C8.fnScope_by (by decide +kernel)
def m_is_range : MS := (mSeq (mIfS (mOr (mNot (mTB (mCB bIsi (mCons (mVar 0) (mCons (mC (.ty "tuple")) mNil))))) (mTB (mOp oNe (mCB bLenQ (mCons (mVar 0) mNil)) (mC (.int 2))))) (mRet (mC (.bl false))) mNext)
  (mRet (mAndV (mCall 1 f_is_count [] (mCons (mOp oIxT (mVar 0) (mC (.int 0))) mNil)) (mAndV (mCall 1 f_is_count [] (mCons (mOp oIxT (mVar 0) (mC (.int 1))) mNil)) (mOp (oI0 fun i j => .bl (decide (i ≤ j))) (mOp oIxT (mVar 0) (mC (.int 0))) (mOp oIxT (mVar 0) (mC (.int 1))))))))
def f_is_range : Fn := fnM 1 m_is_range
theorem c_is_range (B : Bl mg) (h_is_count : C8.Cal P w Cl.K mg base 2 "is_count" (spT 1 f_is_count) []) (D : DefX Cl.K mg "_is_range" s_is_range) : C8.Cal P w Cl.K mg base 3 "_is_range" (spT 1 f_is_range) [] := by
  refine cal_of D sc_is_range (fun _ _ _ _ _ _ us hl => match us, hl with | [_], _ => rfl) (fun vs H Q E h => spT_len h) (fun f cdv A outer s H vs Q E hr h => ?_)
  have nd := sc_is_range.nd
  have hu := hu_of hr
  refine ⟨_, (pss_cons (ps_if (PW.pt (pw_or (pt_not (pt_val (pe_callB call_isi (by rfl) B.b_isinstance (by decide +kernel) (pa_cons (pv 0) (pa_cons (pe_bltn (v := .ty "tuple") (by rfl) B.b_tuple (by decide +kernel) rfl) pa_nil))))) (pw_or1 (pt_cmpR op_ne (pe_callB call_len_seq' (by rfl) B.b_len (by decide +kernel) (pa_cons (pv 0) pa_nil)) pe_int (nomark _))))) (pss_one (ps_ret pe_bl)) pss_nil)
  (pss_one (ps_ret (pe_and (C8.pe_c h_is_count hr (by decide) (by rfl) (pa_cons (pe_ix (show IxR _ (rIxT Cl.K) from ix_tup) (pv 0) pe_int (fun _ _ => rfl)) pa_nil)) (pe_and (C8.pe_c h_is_count hr (by decide) (by rfl) (pa_cons (pe_ix (show IxR _ (rIxT Cl.K) from ix_tup) (pv 0) pe_int (fun _ _ => rfl)) pa_nil)) (pe_one (pe_cmpR op_le (pe_ix (show IxR _ (rIxT Cl.K) from ix_tup) (pv 0) pe_int (fun _ _ => rfl)) (pe_ix (show IxR _ (rIxT Cl.K) from ix_tup) (pv 0) pe_int (fun _ _ => rfl)) (nomark _)))))))), ?_⟩
  exact run_fn (fun I d => (z_seq (z_if (t_or (t_not (t_b (s_cb bs_isi (s_cons s_var (s_cons (s_C fun _ => .ty _) s_nil))))) (t_b (s_op os_ne (s_cb bs_lenQ (s_cons s_var s_nil)) (s_C fun _ => .int _)))) (z_ret (s_C fun _ => .bl _)) z_next)
  (z_ret (s_andV (s_call (fun _ => .nil) (s_cons (s_op os_ixT' s_var (s_C fun _ => .int _)) s_nil)) (s_andV (s_call (fun _ => .nil) (s_cons (s_op os_ixT' s_var (s_C fun _ => .int _)) s_nil)) (s_op os_le (s_op os_ixT' s_var (s_C fun _ => .int _)) (s_op os_ixT' s_var (s_C fun _ => .int _)))))))) h

abbrev s_is_ranges : Stmt := top 47
theorem sc_is_ranges : FnScope ["value", "name", "span"] ["value"] (C8.fnScope s_is_ranges) := C8.fnScope_by (by decide +kernel)
def m_is_ranges : MS := (mRet (mAndV (mCB bIsi (mCons (mVar 0) (mCons (mC (.ty "dict")) mNil))) (mCB bAll (mCons (mLock 0 (mLc (miVar 0 pairsL) (mgT 2 (mgCons (mgN 1) (mgCons (mgN 2) mgNil))) mYes (mAndV (mCall 1 f_is_name [] (mCons (mVar 1) mNil)) (mCall 1 f_is_range [] (mCons (mVar 2) mNil))) [1, 2])) mNil))))
def f_is_ranges : Fn := fnM 3 m_is_ranges
theorem c_is_ranges (B : Bl mg) (h_is_range : C8.Cal P w Cl.K mg base 3 "_is_range" (spT 1 f_is_range) []) (h_is_name : C8.Cal P w Cl.K mg base 1 "is_name" (spT 1 f_is_name) []) (D : DefX Cl.K mg "_is_ranges" s_is_ranges) : C8.Cal P w Cl.K mg base 4 "_is_ranges" (spT 1 f_is_ranges) [] := by
  refine cal_of D sc_is_ranges (fun _ _ _ _ _ _ us hl => match us, hl with | [_], _ => rfl) (fun vs H Q E h => spT_len h) (fun f cdv A outer s H vs Q E hr h => ?_)
  have nd := sc_is_ranges.nd
  have hu := hu_of hr
  refine ⟨_, (pss_one (ps_ret (pe_and (pe_callB call_isi (by rfl) B.b_isinstance (by decide +kernel) (pa_cons (pv 0) (pa_cons (pe_bltn (v := .ty "dict") (by rfl) B.b_dict (by decide +kernel) rfl) pa_nil))) (pe_one (pe_callB (cr_all rfl) (by rfl) B.b_all (by decide +kernel) (pa_cons (pe_lockB (pe_lc (own := [("name", 1), ("span", 2)]) (g := (gTup Cl.K 2 (gCons (gName 1) (gCons (gName 2) gNil)))) rfl nd (pi_items (pv 0)) (blkOk_by (N := _) (by rfl)) (fun _ _ _ _ _ => (pg_tup (n := 2) rfl (pgs_cons (pg_name (i := 1) nd rfl (by first | exact Or.inl rfl | exact Or.inr rfl)) (pgs_cons (pg_name (i := 2) nd rfl (by first | exact Or.inl rfl | exact Or.inr rfl)) pgs_nil)))) (fun _ _ _ _ _ => pts_nil) (fun _ _ _ _ _ => (pe_and (C8.pe_c h_is_name hr (by decide) (by rfl) (pa_cons (pv 1) pa_nil)) (pe_one (C8.pe_c h_is_range hr (by decide) (by rfl) (pa_cons (pv 2) pa_nil))))))) pa_nil)))))), ?_⟩
  exact run_fn (fun I d => (z_ret (s_andV (s_cb bs_isi (s_cons s_var (s_cons (s_C fun _ => .ty _) s_nil))) (s_cb bs_all (s_cons (SO.se (o_lock (o_lc i_items (g_tup (g_cons g_name (g_cons g_name g_nil))) (by decide) t_yes' (s_andV (s_call (fun _ => .nil) (s_cons s_var s_nil)) (s_call (fun _ => .nil) (s_cons s_var s_nil)))))) s_nil))))) h

abbrev s_check_names : Stmt := top 49
theorem sc_check_names : FnScope ["ranges", "names", "name"] ["ranges", "names"] (C8.fnScope s_check_names) := C8.fnScope_by (by decide +kernel)
def m_check_names : MS := (mIfS (mOr (mNot (mTB (mCall 1 f_is_ranges [] (mCons (mVar 0) mNil)))) (mNot (mTB (mCB bAll (mCons (mLc (miL (mVar 1)) (mgN 2) (mTB (mOp oNe (mVar 2) (mC (.str (Str.ofString ""))))) (mDIn (mVar 2) (mVar 0)) [2]) mNil))))) mNever mNext)
def f_check_names : Fn := fnM 3 m_check_names
theorem c_check_names (B : Bl mg) (h_is_ranges : C8.Cal P w Cl.K mg base 4 "_is_ranges" (spT 1 f_is_ranges) []) (D : DefX Cl.K mg "_check_names" s_check_names) : C8.Cal P w Cl.K mg base 5 "_check_names" (spT 2 f_check_names) [] := by
  refine cal_of D sc_check_names (fun _ _ _ _ _ _ us hl => match us, hl with | [_, _], _ => rfl) (fun vs H Q E h => spT_len h) (fun f cdv A outer s H vs Q E hr h => ?_)
  have nd := sc_check_names.nd
  have hu := hu_of hr
  refine ⟨_, (pss_one (ps_if (PW.pt (pw_or (pt_not (pt_val (C8.pe_c h_is_ranges hr (by decide) (by rfl) (pa_cons (pv 0) pa_nil)))) (pw_or1 (pt_not (pt_val (pe_callB (cr_all rfl) (by rfl) B.b_all (by decide +kernel) (pa_cons (pe_lc (own := [("name", 2)]) (g := (gName 2)) rfl nd (show PI _ _ _ (iList Cl.K _) from pi_list (pv 1)) (blkOk_by (N := _) (by rfl)) (fun _ _ _ _ _ => (pg_name (i := 2) nd rfl (by first | exact Or.inl rfl | exact Or.inr rfl))) (fun _ _ _ _ _ => (pts_one (pt_cmpR op_ne (pv 2) pe_str (nomark _)))) (fun _ _ _ _ _ => (pe_cmp (pc_din hu (pv 2) (pv 0)) (by rfl)))) pa_nil))))))) pss_never pss_nil)), ?_⟩
  exact run_fn (fun I d => (z_if (t_or (t_not (t_b (s_call (fun _ => .nil) (s_cons s_var s_nil)))) (t_not (t_b (s_cb bs_all (s_cons (SO.se (SOp'.so (o_lc (i_list s_var) g_name (by decide) (t_b (s_op os_ne s_var (s_C fun _ => .str _))) (s_din s_var s_var)))) s_nil))))) z_never' z_next)) h

abbrev s_outer_days : Stmt := top 51
theorem sc_outer_days : FnScope ["spans", "told", "span", "days", "day"] ["spans"] (C8.fnScope s_outer_days) := C8.fnScope_by (by decide +kernel)
def m_outer_days : MS := (mSeq (mAsg (mLst (mCons (mTup mNil) mNil)) (mgN 1))
  (mSeq (mFor (miL (mVar 0)) (mgN 2)
  (mAsg (mLc2 (miL (mVar 1)) (mgN 3) mYes (miT (mVar 2)) (mgN 4) mYes (mOp oCatT (mVar 3) (mTup (mCons (mVar 4) mNil))) [3, 4] [4]) (mgN 1)))
  (mRet (mVar 1))))
def f_outer_days : Fn := fnM 5 m_outer_days
theorem c_outer_days (B : Bl mg)  (D : DefX Cl.K mg "_outer_days" s_outer_days) : C8.Cal P w Cl.K mg base 1 "_outer_days" (spT 1 f_outer_days) [] := by
  refine cal_of D sc_outer_days (fun _ _ _ _ _ _ us hl => match us, hl with | [_], _ => rfl) (fun vs H Q E h => spT_len h) (fun f cdv A outer s H vs Q E hr h => ?_)
  have nd := sc_outer_days.nd
  have hu := hu_of hr
  refine ⟨_, (pss_cons (ps_set (i := 1) nd rfl (Or.inl rfl) (pe_lst (pa_cons (pe_tupB pa_nil) pa_nil)))
  (pss_cons (ps_for PassesOwn.never rfl (show PI _ _ _ (iList Cl.K _) from pi_list (pv 0)) (pg_name (i := 2) nd rfl (by first | exact Or.inl rfl | exact Or.inr rfl))
  (pss_one (ps_setLc2 (i := 1) (own := [("days", 3), ("day", 4)]) (vs1 := [4]) (g := (gName 3)) (g1 := (gName 4)) rfl nd rfl rfl (sw_true rfl rfl rfl (by decide +kernel)) (show PI _ _ _ (iList Cl.K _) from pi_list (pv 1)) (blkOk_by (N := _) (by rfl)) (by decide) (fun _ _ _ _ _ => (pg_name (i := 3) nd rfl (by first | exact Or.inl rfl | exact Or.inr rfl))) (fun _ _ _ _ _ => pts_nil) (fun _ _ _ _ _ => (show PI _ _ _ (iTup Cl.K _) from pi_tup (pv 2))) (fun _ _ _ _ _ => (pg_name (i := 4) nd rfl (by first | exact Or.inl rfl | exact Or.inr rfl))) (fun _ _ _ _ _ => pts_nil) (fun _ _ _ _ _ => (pe_op (show OpR _ (binaryOp .Add) (rCatB Cl.K) from op_catB) (pv 3) (pe_tupB (pa_cons (pv 4) pa_nil)))))))
  (pss_one (ps_ret (pv 1))))), ?_⟩
  exact run_fn (fun I d => (z_seq (z_asg (SO.se (o_lst (s_cons (s_tup s_nil) s_nil))) g_name (.inl rfl))
  (z_seq (z_for (i_list s_var) g_name (.inl rfl)
  (z_asg (SO.se (SOp'.so (o_lc2 (i_list s_var) g_name (by decide) t_yes' (i_tup s_var) g_name (by decide) t_yes' (s_op os_catT s_var (s_tup (s_cons s_var s_nil)))))) g_name (.inl rfl)))
  (z_ret s_var)))) h

abbrev s_corner_days : Stmt := top 50
theorem sc_corner_days : FnScope ["spans", "total", "outer", "told", "days", "at", "low", "high", "rest"] ["spans", "total"] (C8.fnScope s_corner_days) := C8.fnScope_by (by decide +kernel)
def m_corner_days : MS := (mSeq (mAsg (mCall 1 f_outer_days [] (mCons (mVar 0) mNil)) (mgN 2))
  (mSeq (mIfS (mTB (mOp (oNone true) (mVar 1) (mC .non))) (mRet (mVar 2)) mNext)
  (mSeq (mAsgO (mLc (miL (mVar 2)) (mgN 4) (mTB (mOp oEq (mCB bSumT (mCons (mVar 4) mNil)) (mVar 1))) (mVar 4) [4]) 3)
  (mSeq (mFor (miEnum (mCons (mVar 0) mNil)) (mgT 2 (mgCons (mgN 5) (mgCons (mgT 2 (mgCons (mgN 6) (mgCons (mgN 7) mgNil))) mgNil)))
  (mFor (miL (mCall 1 f_outer_days [] (mCons (mOp oCat (mSlL (mVar 0) mNoPart (mPart (mVar 5))) (mSlL (mVar 0) (mPart (mOp (oI0 fun i j => .int (i + j)) (mVar 5) (mC (.int 1)))) mNoPart)) mNil))) (mgN 4)
  (mSeq (mAsg (mOp (oI0 fun i j => .int (i - j)) (mVar 1) (mCB bSumT (mCons (mVar 4) mNil))) (mgN 8))
  (mIfS (mTB (mChain (oI0 fun i j => .bl (decide (i ≤ j))) (oI0 fun i j => .bl (decide (i ≤ j))) (mVar 6) (mVar 8) (mVar 7))) (mAppend 3 (mOp oCatT (mOp oCatT (mSlT (mVar 4) mNoPart (mPart (mVar 5))) (mTup (mCons (mVar 8) mNil))) (mSlT (mVar 4) (mPart (mVar 5)) mNoPart))) mNext))))
  (mFrz [3] (mRet (mVar 3)))))))
def f_corner_days : Fn := fnM 9 m_corner_days
theorem c_corner_days (B : Bl mg) (h_outer_days : C8.Cal P w Cl.K mg base 1 "_outer_days" (spT 1 f_outer_days) []) (D : DefX Cl.K mg "_corner_days" s_corner_days) : C8.Cal P w Cl.K mg base 2 "_corner_days" (spT 2 f_corner_days) [] := by
  refine cal_of D sc_corner_days (fun _ _ _ _ _ _ us hl => match us, hl with | [_, _], _ => rfl) (fun vs H Q E h => spT_len h) (fun f cdv A outer s H vs Q E hr h => ?_)
  have nd := sc_corner_days.nd
  have hu := hu_of hr
  refine ⟨_, (pss_cons (ps_set (i := 2) nd rfl (Or.inl rfl) (C8.pe_c h_outer_days hr (by decide) (by rfl) (pa_cons (pv 0) pa_nil)))
  (pss_cons (ps_if (pt_cmpR op_isNil (pv 1) pe_non (nomark _)) (pss_one (ps_ret (pv 2))) pss_nil)
  (pss_cons (ps_setLc (i := 3) (own := [("days", 4)]) (g := (gName 4)) rfl nd rfl rfl (sw_true rfl rfl rfl (by decide +kernel)) (show PI _ _ _ (iList Cl.K _) from pi_list (pv 2)) (blkOk_by (N := _) (by rfl)) (fun _ _ _ _ _ => (pg_name (i := 4) nd rfl (by first | exact Or.inl rfl | exact Or.inr rfl))) (fun _ _ _ _ _ => (pts_one (pt_cmpR op_eq (pe_callB (show CallR _ _ (rSumT Cl.K) from (cr_sumT rfl)) (by rfl) B.b_sum (by decide +kernel) (pa_cons (pv 4) pa_nil)) (pv 1) (nomark _)))) (fun _ _ _ _ _ => (pv 4)))
  (pss_cons (ps_for PassesOwn.never rfl (show PI _ _ _ (iEnum Cl.K _) from pi_enum (by rfl) B.b_enumerate (pa_cons (pv 0) pa_nil)) (pg_tup (n := 2) rfl (pgs_cons (pg_name (i := 5) nd rfl (by first | exact Or.inl rfl | exact Or.inr rfl)) (pgs_cons (pg_tup (n := 2) rfl (pgs_cons (pg_name (i := 6) nd rfl (by first | exact Or.inl rfl | exact Or.inr rfl)) (pgs_cons (pg_name (i := 7) nd rfl (by first | exact Or.inl rfl | exact Or.inr rfl)) pgs_nil))) pgs_nil)))
  (pss_one (ps_for PassesOwn.never rfl (show PI _ _ _ (iList Cl.K _) from pi_list (C8.pe_c h_outer_days hr (by decide) (by rfl) (pa_cons (pe_op op_cat (pe_slice sl_list (pv 0) po_none (po_some (pv 5))) (pe_slice sl_list (pv 0) (po_some (pe_op op_add (pv 5) pe_int)) po_none)) pa_nil))) (pg_name (i := 4) nd rfl (by first | exact Or.inl rfl | exact Or.inr rfl))
  (pss_cons (ps_set (i := 8) nd rfl (Or.inl rfl) (pe_op op_sub (pv 1) (pe_callB (cr_sumT rfl) (by rfl) B.b_sum (by decide +kernel) (pa_cons (pv 4) pa_nil))))
  (pss_one (ps_if (pt_chain op_le op_le (pv 6) (pv 8) (pv 7)) (pss_one (ps_expr (pe_bm PySem.F.plainAttrs_list PySem.F.slot_list_append PySem.F.type_list_append mt_append (pv 3) (pa_cons (pe_op (show OpR _ (binaryOp .Add) (rCatB Cl.K) from op_catB) (pe_op (show OpR _ (binaryOp .Add) (rCatB Cl.K) from op_catB) (pe_slice (show SlR _ (rSlB Cl.K) from sl_tupB) (pv 4) po_none (po_some (pv 5))) (pe_tupB (pa_cons (pv 8) pa_nil))) (pe_slice (show SlR _ (rSlB Cl.K) from sl_tupB) (pv 4) (po_some (pv 5)) po_none)) pa_nil)))) pss_nil))))))
  (pss_one (ps_ret (pv 3))))))), ?_⟩
  exact run_fn (fun I d => (z_seq (z_asg (s_call (fun _ => .nil) (s_cons s_var s_nil)) g_name (.inl rfl))
  (z_seq (z_if (t_b (s_op os_isN s_var (s_C fun _ => .non))) (z_ret s_var) z_next)
  (z_seq (z_asgO (SOp'.so (o_lc (i_list s_var) g_name (by decide) (t_b (s_op os_eq (s_cb bs_sumT (s_cons s_var s_nil)) s_var)) s_var)) (.inl rfl))
  (z_seq (z_for (i_enum (s_cons s_var s_nil)) (g_tup (g_cons g_name (g_cons (g_tup (g_cons g_name (g_cons g_name g_nil))) g_nil))) (.inl rfl)
  (z_for (i_list (s_call (fun _ => .nil) (s_cons (SO.se (o_op on_cat (SO.se (o_slL s_var so_none (so_part s_var))) (SO.se (o_slL s_var (so_part (s_op os_add s_var (s_C fun _ => .int _))) so_none)))) s_nil))) g_name (.inl rfl)
  (z_seq (z_asg (s_op os_sub s_var (s_cb bs_sumT (s_cons s_var s_nil))) g_name (.inl rfl))
  (z_if (t_b (s_chain os_le os_le s_var s_var s_var)) (z_append (s_op os_catT (s_op os_catT (s_slT s_var so_none (so_part s_var)) (s_tup (s_cons s_var s_nil))) (s_slT s_var (so_part s_var) so_none))) z_next))))
  (z_frz [3] (z_ret s_var))))))) h

abbrev s_corners : Stmt := top 39
theorem sc_corners : FnScope ["ranges", "total", "names", "told", "name", "days"] ["ranges", "total"] (C8.fnScope s_corners) := C8.fnScope_by (by decide +kernel)
def m_corners : MS := (mSeq (mIfS (mNot (mTB (mCall 1 f_is_ranges [] (mCons (mVar 0) mNil)))) mNever mNext)
  (mSeq (mAsg (mCB bSortK (mCons (mVar 0) mNil)) (mgN 2))
  (mSeq (mAsg (mSortSet (mCall 2 f_corner_days [] (mCons (mLc (miL (mVar 2)) (mgN 4) mYes (mDGet (mVar 0) (mVar 4)) [4]) (mCons (mVar 1) mNil)))) (mgN 3))
  (mSeq (mIfS (mTB (mOp oEq (mCB bLenQ (mCons (mVar 3) mNil)) (mC (.int 0)))) mNever mNext)
  (mRet (mLc (miL (mVar 3)) (mgN 5) mYes (mDictZ (mCons (mVar 2) (mCons (mVar 5) mNil))) [5]))))))
def f_corners : Fn := fnM 6 m_corners
theorem ok_corners (B : Bl mg) (h_is_ranges : C8.Cal P w Cl.K mg base 4 "_is_ranges" (spT 1 f_is_ranges) []) (h_corner_days : C8.Cal P w Cl.K mg base 2 "_corner_days" (spT 2 f_corner_days) []) {g : Addr} {fd : FuncData} (F : C8.Fun Cl.K "corners" "corners" s_corners g fd) : FnOk P w Cl.K mg base C8.CX0 5 g fd ["ranges", "total"] (spT 2 f_corners) := by
  refine C8.fn0 F sc_corners (fun vs H Q E h => spT_len h) (fun cdv A outer s H vs Q E hr h => ?_)
  have nd := sc_corners.nd
  have hu := hu_of hr
  refine ⟨_, (pss_cons (ps_if (pt_not (pt_val (C8.pe_c h_is_ranges hr (by decide) (by rfl) (pa_cons (pv 0) pa_nil)))) pss_never pss_nil)
  (pss_cons (ps_set (i := 2) nd rfl (Or.inr rfl) (pe_callB (cr_sortK rfl (hu64 hr)) (by rfl) B.b_sorted (by decide +kernel) (pa_cons (pv 0) pa_nil)))
  (pss_cons (ps_set (i := 3) nd rfl (Or.inl rfl) (pe_sortSet rfl (hu64 hr) (by rfl) B.b_sorted (by rfl) B.b_set (C8.pe_c h_corner_days hr (by decide) (by rfl) (pa_cons (pe_lc (own := [("name", 4)]) (g := (gName 4)) rfl nd (show PI _ _ _ (iList Cl.K _) from pi_list (pv 2)) (blkOk_by (N := _) (by rfl)) (fun _ _ _ _ _ => (pg_name (i := 4) nd rfl (by first | exact Or.inl rfl | exact Or.inr rfl))) (fun _ _ _ _ _ => pts_nil) (fun _ _ _ _ _ => (pe_dget hu (pv 0) (pv 4) (fun _ _ => rfl)))) (pa_cons (pv 1) pa_nil)))))
  (pss_cons (ps_if (pt_cmpR op_eq (pe_callB call_len_seq' (by rfl) B.b_len (by decide +kernel) (pa_cons (pv 3) pa_nil)) pe_int (nomark _)) pss_never pss_nil)
  (pss_one (ps_ret (pe_lc (own := [("days", 5)]) (g := (gName 5)) rfl nd (show PI _ _ _ (iList Cl.K _) from pi_list (pv 3)) (blkOk_by (N := _) (by rfl)) (fun _ _ _ _ _ => (pg_name (i := 5) nd rfl (by first | exact Or.inl rfl | exact Or.inr rfl))) (fun _ _ _ _ _ => pts_nil) (fun _ _ _ _ _ => (show PE _ _ (ZN.tDictZ Cl.K _) from ZN.pe_dictZ rfl (by rfl) B.b_zip (by rfl) B.b_dict (pa_cons (pv 2) (pa_cons (pv 5) pa_nil))))))))))), ?_⟩
  exact run_fn (fun I d => (z_seq (z_if (t_not (t_b (s_call (fun _ => .nil) (s_cons s_var s_nil)))) z_never' z_next)
  (z_seq (z_asg (SO.se (o_cb bn_sortK (s_cons s_var s_nil))) g_name (.inl rfl))
  (z_seq (z_asg (SO.se (o_sortSet (s_call (fun _ => .nil) (s_cons (SO.se (SOp'.so (o_lc (i_list s_var) g_name (by decide) t_yes' (s_dget s_var s_var)))) (s_cons s_var s_nil))))) g_name (.inl rfl))
  (z_seq (z_if (t_b (s_op os_eq (s_cb bs_lenQ (s_cons s_var s_nil)) (s_C fun _ => .int _))) z_never' z_next)
  (z_ret (SO.se (SOp'.so (o_lc (i_list s_var) g_name (by decide) t_yes' (SO.se (o_dictZ (s_cons s_var (s_cons s_var s_nil))))))))))))) h

abbrev s_Ends_chains : Stmt := inClass (top 63) 1
theorem sc_Ends_chains : FnScope ["self"] ["self"] (C8.fnScope s_Ends_chains) := C8.fnScope_by (by decide +kernel)
def m_Ends_chains : MS := (mRet (mCB bList (mCons (mFld 6 (Str.ofString "_chains") (mVar 0)) mNil)))
def f_Ends_chains : Fn := fnM 1 m_Ends_chains
theorem ok_Ends_chains (B : Bl mg) (h_cl_Ends : Cls Cl.K (Cl.ad 6)) (h_na_Ends__chains : NoAttr Cl.K (Cl.ad 6) (Str.ofString "_chains")) {g : Addr} {fd : FuncData} (F : C8.Fun Cl.K "chains" "Ends.chains" s_Ends_chains g fd) : FnOk P w Cl.K mg base C8.CX0 1 g fd ["self"] (spT 1 f_Ends_chains) := by
  refine C8.fn0 F sc_Ends_chains (fun vs H Q E h => spT_len h) (fun cdv A outer s H vs Q E hr h => ?_)
  have nd := sc_Ends_chains.nd
  have hu := hu_of hr
  refine ⟨_, (pss_one (ps_ret (pe_callTy call_list_of' (by rfl) B.b_list (by decide +kernel) (pa_cons (pe_fld (pv 0) rfl) pa_nil)))), ?_⟩
  exact run_fn (fun I d => (z_ret (SO.se (o_cb bn_list (s_cons (s_fld h_cl_Ends h_na_Ends__chains s_var) s_nil))))) h

abbrev s_has_days : Stmt := top 17
theorem sc_has_days : FnScope ["value", "names", "name", "days"] ["value", "names"] (C8.fnScope s_has_days) := C8.fnScope_by (by decide +kernel)
def m_has_days : MS := (mSeq (mIfS (mNot (mTB (mCB bIsi (mCons (mVar 0) (mCons (mC (.ty "dict")) mNil))))) (mRet (mC (.bl false))) mNext)
  (mSeq (mIfS (mNot (mTB (mCB bAll (mCons (mLock 0 (mLc (miVar 0 pairsL) (mgT 2 (mgCons (mgN 2) (mgCons (mgN 3) mgNil))) mYes (mAndV (mCall 1 f_is_name [] (mCons (mVar 2) mNil)) (mCall 1 f_is_count [] (mCons (mVar 3) mNil))) [2, 3])) mNil)))) (mRet (mC (.bl false))) mNext)
  (mRet (mCB bAll (mCons (mLc (miL (mVar 1)) (mgN 2) mYes (mDIn (mVar 2) (mVar 0)) [2]) mNil)))))
def f_has_days : Fn := fnM 4 m_has_days
theorem c_has_days (B : Bl mg) (h_is_count : C8.Cal P w Cl.K mg base 2 "is_count" (spT 1 f_is_count) []) (h_is_name : C8.Cal P w Cl.K mg base 1 "is_name" (spT 1 f_is_name) []) (D : DefX Cl.K mg "has_days" s_has_days) : C8.Cal P w Cl.K mg base 3 "has_days" (spT 2 f_has_days) [] := by
  refine cal_of D sc_has_days (fun _ _ _ _ _ _ us hl => match us, hl with | [_, _], _ => rfl) (fun vs H Q E h => spT_len h) (fun f cdv A outer s H vs Q E hr h => ?_)
  have nd := sc_has_days.nd
  have hu := hu_of hr
  refine ⟨_, (pss_cons (ps_if (pt_not (pt_val (pe_callB call_isi (by rfl) B.b_isinstance (by decide +kernel) (pa_cons (pv 0) (pa_cons (pe_bltn (v := .ty "dict") (by rfl) B.b_dict (by decide +kernel) rfl) pa_nil))))) (pss_one (ps_ret pe_bl)) pss_nil)
  (pss_cons (ps_if (pt_not (pt_val (pe_callB (cr_all rfl) (by rfl) B.b_all (by decide +kernel) (pa_cons (pe_lockB (pe_lc (own := [("name", 2), ("days", 3)]) (g := (gTup Cl.K 2 (gCons (gName 2) (gCons (gName 3) gNil)))) rfl nd (pi_items (pv 0)) (blkOk_by (N := _) (by rfl)) (fun _ _ _ _ _ => (pg_tup (n := 2) rfl (pgs_cons (pg_name (i := 2) nd rfl (by first | exact Or.inl rfl | exact Or.inr rfl)) (pgs_cons (pg_name (i := 3) nd rfl (by first | exact Or.inl rfl | exact Or.inr rfl)) pgs_nil)))) (fun _ _ _ _ _ => pts_nil) (fun _ _ _ _ _ => (pe_and (C8.pe_c h_is_name hr (by decide) (by rfl) (pa_cons (pv 2) pa_nil)) (pe_one (C8.pe_c h_is_count hr (by decide) (by rfl) (pa_cons (pv 3) pa_nil))))))) pa_nil)))) (pss_one (ps_ret pe_bl)) pss_nil)
  (pss_one (ps_ret (pe_callB (cr_all rfl) (by rfl) B.b_all (by decide +kernel) (pa_cons (pe_lc (own := [("name", 2)]) (g := (gName 2)) rfl nd (show PI _ _ _ (iList Cl.K _) from pi_list (pv 1)) (blkOk_by (N := _) (by rfl)) (fun _ _ _ _ _ => (pg_name (i := 2) nd rfl (by first | exact Or.inl rfl | exact Or.inr rfl))) (fun _ _ _ _ _ => pts_nil) (fun _ _ _ _ _ => (pe_cmp (pc_din hu (pv 2) (pv 0)) (by rfl)))) pa_nil)))))), ?_⟩
  exact run_fn (fun I d => (z_seq (z_if (t_not (t_b (s_cb bs_isi (s_cons s_var (s_cons (s_C fun _ => .ty _) s_nil))))) (z_ret (s_C fun _ => .bl _)) z_next)
  (z_seq (z_if (t_not (t_b (s_cb bs_all (s_cons (SO.se (o_lock (o_lc i_items (g_tup (g_cons g_name (g_cons g_name g_nil))) (by decide) t_yes' (s_andV (s_call (fun _ => .nil) (s_cons s_var s_nil)) (s_call (fun _ => .nil) (s_cons s_var s_nil)))))) s_nil)))) (z_ret (s_C fun _ => .bl _)) z_next)
  (z_ret (s_cb bs_all (s_cons (SO.se (SOp'.so (o_lc (i_list s_var) g_name (by decide) t_yes' (s_din s_var s_var)))) s_nil)))))) h

abbrev s_amount : Stmt := top 20
theorem sc_amount : FnScope ["chain", "lengths", "name", "_", "parts"] ["chain", "lengths"] (C8.fnScope s_amount) := C8.fnScope_by (by decide +kernel)
def m_amount : MS := (mSeq (mIfS (mNot (mTB (mCall 2 f_has_days [] (mCons (mVar 1) (mCons (mLc (miT (mVar 0)) (mgT 2 (mgCons (mgN 2) (mgCons (mgN 3) mgNil))) (mTB (mOp oNe (mVar 2) (mC (.str (Str.ofString ""))))) (mVar 2) [2, 3]) mNil))))) mNever mNext)
  (mRet (mCB bSum (mCons (mLc (miT (mVar 0)) (mgT 2 (mgCons (mgN 2) (mgCons (mgN 4) mgNil))) mYes (mOp (oI cMulB fun i j => .int (i * j)) (mVar 4) (mDGet2 (mVar 1) (mVar 2) (mC (.int 1)))) [2, 4]) mNil))))
def f_amount : Fn := fnM 5 m_amount
theorem c_amount (B : Bl mg) (h_has_days : C8.Cal P w Cl.K mg base 3 "has_days" (spT 2 f_has_days) []) (D : DefX Cl.K mg "amount" s_amount) : C8.Cal P w Cl.K mg base 4 "amount" (spT 2 f_amount) [] := by
  refine cal_of D sc_amount (fun _ _ _ _ _ _ us hl => match us, hl with | [_, _], _ => rfl) (fun vs H Q E h => spT_len h) (fun f cdv A outer s H vs Q E hr h => ?_)
  have nd := sc_amount.nd
  have hu := hu_of hr
  refine ⟨_, (pss_cons (ps_if (pt_not (pt_val (C8.pe_c h_has_days hr (by decide) (by rfl) (pa_cons (pv 1) (pa_cons (pe_lc (own := [("name", 2), ("_", 3)]) (g := (gTup Cl.K 2 (gCons (gName 2) (gCons (gName 3) gNil)))) rfl nd (show PI _ _ _ (iTup Cl.K _) from pi_tup (pv 0)) (blkOk_by (N := _) (by rfl)) (fun _ _ _ _ _ => (pg_tup (n := 2) rfl (pgs_cons (pg_name (i := 2) nd rfl (by first | exact Or.inl rfl | exact Or.inr rfl)) (pgs_cons (pg_name (i := 3) nd rfl (by first | exact Or.inl rfl | exact Or.inr rfl)) pgs_nil)))) (fun _ _ _ _ _ => (pts_one (pt_cmpR op_ne (pv 2) pe_str (nomark _)))) (fun _ _ _ _ _ => (pv 2))) pa_nil))))) pss_never pss_nil)
  (pss_one (ps_ret (pe_callB (cr_sum rfl) (by rfl) B.b_sum (by decide +kernel) (pa_cons (pe_lc (own := [("name", 2), ("parts", 4)]) (g := (gTup Cl.K 2 (gCons (gName 2) (gCons (gName 4) gNil)))) rfl nd (show PI _ _ _ (iTup Cl.K _) from pi_tup (pv 0)) (blkOk_by (N := _) (by rfl)) (fun _ _ _ _ _ => (pg_tup (n := 2) rfl (pgs_cons (pg_name (i := 2) nd rfl (by first | exact Or.inl rfl | exact Or.inr rfl)) (pgs_cons (pg_name (i := 4) nd rfl (by first | exact Or.inl rfl | exact Or.inr rfl)) pgs_nil)))) (fun _ _ _ _ _ => pts_nil) (fun _ _ _ _ _ => (pe_op op_mulB (pv 4) (pe_dget2 hu (pv 1) (pv 2) pe_int ⟨rfl, rfl, rfl, rfl⟩)))) pa_nil))))), ?_⟩
  exact run_fn (fun I d => (z_seq (z_if (t_not (t_b (s_call (fun _ => .nil) (s_cons s_var (s_cons (SO.se (SOp'.so (o_lc (i_tup s_var) (g_tup (g_cons g_name (g_cons g_name g_nil))) (by decide) (t_b (s_op os_ne s_var (s_C fun _ => .str _))) s_var))) s_nil))))) z_never' z_next)
  (z_ret (s_cb bs_sum (s_cons (SO.se (SOp'.so (o_lc (i_tup s_var) (g_tup (g_cons g_name (g_cons g_name g_nil))) (by decide) t_yes' (s_op os_mulB s_var (s_dget2 s_var s_var (s_C fun _ => .int _)))))) s_nil))))) h

abbrev s_columns : Stmt := top 53
theorem sc_columns : FnScope ["chains", "told", "lengths", "chain"] ["chains", "told"] (C8.fnScope s_columns) := C8.fnScope_by (by decide +kernel)
def m_columns : MS := (mRet (mLc (miL (mVar 0)) (mgN 3) mYes (mLc (miL (mVar 1)) (mgN 2) mYes (mCall 2 f_amount [] (mCons (mVar 3) (mCons (mVar 2) mNil))) [2]) [3]))
def f_columns : Fn := fnM 4 m_columns
theorem c_columns (B : Bl mg) (h_amount : C8.Cal P w Cl.K mg base 4 "amount" (spT 2 f_amount) []) (D : DefX Cl.K mg "_columns" s_columns) : C8.Cal P w Cl.K mg base 5 "_columns" (spT 2 f_columns) [] := by
  refine cal_of D sc_columns (fun _ _ _ _ _ _ us hl => match us, hl with | [_, _], _ => rfl) (fun vs H Q E h => spT_len h) (fun f cdv A outer s H vs Q E hr h => ?_)
  have nd := sc_columns.nd
  have hu := hu_of hr
  refine ⟨_, (pss_one (ps_ret (pe_lc (own := [("chain", 3)]) (g := (gName 3)) rfl nd (show PI _ _ _ (iList Cl.K _) from pi_list (pv 0)) (blkOk_by (N := _) (by rfl)) (fun _ _ _ _ _ => (pg_name (i := 3) nd rfl (by first | exact Or.inl rfl | exact Or.inr rfl))) (fun _ _ _ _ _ => pts_nil) (fun _ _ _ _ _ => (pe_lc (own := [("lengths", 2)]) (g := (gName 2)) rfl nd (show PI _ _ _ (iList Cl.K _) from pi_list (pv 1)) (blkOk_by (N := _) (by rfl)) (fun _ _ _ _ _ => (pg_name (i := 2) nd rfl (by first | exact Or.inl rfl | exact Or.inr rfl))) (fun _ _ _ _ _ => pts_nil) (fun _ _ _ _ _ => (C8.pe_c h_amount hr (by decide) (by rfl) (pa_cons (pv 3) (pa_cons (pv 2) pa_nil))))))))), ?_⟩
  exact run_fn (fun I d => (z_ret (SO.se (SOp'.so (o_lc (i_list s_var) g_name (by decide) t_yes' (SO.se (SOp'.so (o_lc (i_list s_var) g_name (by decide) t_yes' (s_call (fun _ => .nil) (s_cons s_var (s_cons s_var s_nil))))))))))) h

abbrev s_columns_of_both : Stmt := top 52
theorem sc_columns_of_both : FnScope ["one", "other", "ranges", "total", "told"] ["one", "other", "ranges", "total"] (C8.fnScope s_columns_of_both) := C8.fnScope_by (by decide +kernel)
def m_columns_of_both : MS := (mSeq (mDrop (mCall 2 f_check_names [] (mCons (mVar 2) (mCons (mOp oCat (mProp 6 f_Ends_names (mVar 0)) (mProp 6 f_Ends_names (mVar 1))) mNil))))
  (mSeq (mAsg (mCallN 1 1 f_corners (mCons (mVar 2) mNil) (mCons (mVar 3) mNil)) (mgN 4))
  (mRet (mTup (mCons (mCall 2 f_columns [] (mCons (mProp 6 f_Ends_chains (mVar 0)) (mCons (mVar 4) mNil))) (mCons (mCall 2 f_columns [] (mCons (mProp 6 f_Ends_chains (mVar 1)) (mCons (mVar 4) mNil))) mNil))))))
def f_columns_of_both : Fn := fnM 5 m_columns_of_both
theorem c_columns_of_both (B : Bl mg) (h_p_Ends_names : PrpOk P w Cl.K mg base 1 (Cl.ad 6) "names" (spT 1 f_Ends_names)) (h_check_names : C8.Cal P w Cl.K mg base 5 "_check_names" (spT 2 f_check_names) []) (h_kw_corners : CalN P w Cl.K mg base 5 "corners" 1 ["total"] (spT (1 + 1) f_corners)) (h_p_Ends_chains : PrpOk P w Cl.K mg base 1 (Cl.ad 6) "chains" (spT 1 f_Ends_chains)) (h_columns : C8.Cal P w Cl.K mg base 5 "_columns" (spT 2 f_columns) []) (D : DefX Cl.K mg "_columns_of_both" s_columns_of_both) : C8.Cal P w Cl.K mg base 6 "_columns_of_both" (spT 4 f_columns_of_both) [] := by
  refine cal_of D sc_columns_of_both (fun _ _ _ _ _ _ us hl => match us, hl with | [_, _, _, _], _ => rfl) (fun vs H Q E h => spT_len h) (fun f cdv A outer s H vs Q E hr h => ?_)
  have nd := sc_columns_of_both.nd
  have hu := hu_of hr
  refine ⟨_, (pss_cons (ps_expr (C8.pe_c h_check_names hr (by decide) (by rfl) (pa_cons (pv 2) (pa_cons (pe_op op_cat (pe_pr h_p_Ends_names hr (by decide) (pv 0) rfl) (pe_pr h_p_Ends_names hr (by decide) (pv 1) rfl)) pa_nil))))
  (pss_cons (ps_set (i := 4) nd rfl (Or.inl rfl) (pe_cN h_kw_corners hr (by decide) (by rfl) (pa_cons (pv 2) pa_nil) (pk_cons (pv 3) pk_nil)))
  (pss_one (ps_ret (pe_tupB (pa_cons (C8.pe_c h_columns hr (by decide) (by rfl) (pa_cons (pe_pr h_p_Ends_chains hr (by decide) (pv 0) rfl) (pa_cons (pv 4) pa_nil))) (pa_cons (C8.pe_c h_columns hr (by decide) (by rfl) (pa_cons (pe_pr h_p_Ends_chains hr (by decide) (pv 1) rfl) (pa_cons (pv 4) pa_nil))) pa_nil))))))), ?_⟩
  exact run_fn (fun I d => (z_seq (z_drop (s_call (fun _ => .nil) (s_cons s_var (s_cons (SO.se (o_op on_cat (s_prop s_var) (s_prop s_var))) s_nil))))
  (z_seq (z_asg (s_callN (s_cons s_var s_nil) (s_cons s_var s_nil)) g_name (.inl rfl))
  (z_ret (s_tup (s_cons (s_call (fun _ => .nil) (s_cons (s_prop s_var) (s_cons s_var s_nil))) (s_cons (s_call (fun _ => .nil) (s_cons (s_prop s_var) (s_cons s_var s_nil))) s_nil))))))) h

abbrev s_gaps : Stmt := top 54
theorem sc_gaps : FnScope ["columns", "column", "more", "less", "other"] ["columns", "column"] (C8.fnScope s_gaps) := C8.fnScope_by (by decide +kernel)
def m_gaps : MS := (mRet (mLc (miL (mVar 0)) (mgN 4) mYes (mLc (miZip2 (mCons (mVar 4) (mCons (mVar 1) mNil))) (mgT 2 (mgCons (mgN 2) (mgCons (mgN 3) mgNil))) mYes (mOp (oI0 fun i j => .int (i - j)) (mVar 2) (mVar 3)) [2, 3]) [4]))
def f_gaps : Fn := fnM 5 m_gaps
theorem c_gaps (B : Bl mg)  (D : DefX Cl.K mg "_gaps" s_gaps) : C8.Cal P w Cl.K mg base 1 "_gaps" (spT 2 f_gaps) [] := by
  refine cal_of D sc_gaps (fun _ _ _ _ _ _ us hl => match us, hl with | [_, _], _ => rfl) (fun vs H Q E h => spT_len h) (fun f cdv A outer s H vs Q E hr h => ?_)
  have nd := sc_gaps.nd
  have hu := hu_of hr
  refine ⟨_, (pss_one (ps_ret (pe_lc (own := [("other", 4)]) (g := (gName 4)) rfl nd (show PI _ _ _ (iList Cl.K _) from pi_list (pv 0)) (blkOk_by (N := _) (by rfl)) (fun _ _ _ _ _ => (pg_name (i := 4) nd rfl (by first | exact Or.inl rfl | exact Or.inr rfl))) (fun _ _ _ _ _ => pts_nil) (fun _ _ _ _ _ => (pe_lc (own := [("more", 2), ("less", 3)]) (g := (gTup Cl.K 2 (gCons (gName 2) (gCons (gName 3) gNil)))) rfl nd (show PI _ _ _ (ZN.iZip2 Cl.K _) from ZN.pi_zip2 (by rfl) B.b_zip (pa_cons (pv 4) (pa_cons (pv 1) pa_nil))) (blkOk_by (N := _) (by rfl)) (fun _ _ _ _ _ => (pg_tup (n := 2) rfl (pgs_cons (pg_name (i := 2) nd rfl (by first | exact Or.inl rfl | exact Or.inr rfl)) (pgs_cons (pg_name (i := 3) nd rfl (by first | exact Or.inl rfl | exact Or.inr rfl)) pgs_nil)))) (fun _ _ _ _ _ => pts_nil) (fun _ _ _ _ _ => (pe_op op_sub (pv 2) (pv 3)))))))), ?_⟩
  exact run_fn (fun I d => (z_ret (SO.se (SOp'.so (o_lc (i_list s_var) g_name (by decide) t_yes' (SO.se (SOp'.so (o_lc (i_zip2 (s_cons s_var (s_cons s_var s_nil))) (g_tup (g_cons g_name (g_cons g_name g_nil))) (by decide) t_yes' (s_op os_sub s_var s_var))))))))) h

abbrev s_is_weights : Stmt := top 12
theorem sc_is_weights : FnScope ["value", "many", "weight"] ["value", "many"] (C8.fnScope s_is_weights) := C8.fnScope_by (by decide +kernel)
def m_is_weights : MS := (mSeq (mIfS (mOr (mNot (mTB (mCB bIsi (mCons (mVar 0) (mCons (mC (.ty "tuple")) mNil))))) (mTB (mOp oNe (mCB bLenQ (mCons (mVar 0) mNil)) (mVar 1)))) (mRet (mC (.bl false))) mNext)
  (mRet (mAndV (mCB bAll (mCons (mLc (miT (mVar 0)) (mgN 2) mYes (mCall 1 f_is_count [] (mCons (mVar 2) mNil)) [2]) mNil)) (mOp (oI0 fun i j => .bl (decide (j < i))) (mCB bSumT (mCons (mVar 0) mNil)) (mC (.int 0))))))
def f_is_weights : Fn := fnM 3 m_is_weights
theorem c_is_weights (B : Bl mg) (h_is_count : C8.Cal P w Cl.K mg base 2 "is_count" (spT 1 f_is_count) []) (D : DefX Cl.K mg "is_weights" s_is_weights) : C8.Cal P w Cl.K mg base 3 "is_weights" (spT 2 f_is_weights) [] := by
  refine cal_of D sc_is_weights (fun _ _ _ _ _ _ us hl => match us, hl with | [_, _], _ => rfl) (fun vs H Q E h => spT_len h) (fun f cdv A outer s H vs Q E hr h => ?_)
  have nd := sc_is_weights.nd
  have hu := hu_of hr
  refine ⟨_, (pss_cons (ps_if (PW.pt (pw_or (pt_not (pt_val (pe_callB call_isi (by rfl) B.b_isinstance (by decide +kernel) (pa_cons (pv 0) (pa_cons (pe_bltn (v := .ty "tuple") (by rfl) B.b_tuple (by decide +kernel) rfl) pa_nil))))) (pw_or1 (pt_cmpR op_ne (pe_callB call_len_seq' (by rfl) B.b_len (by decide +kernel) (pa_cons (pv 0) pa_nil)) (pv 1) (nomark _))))) (pss_one (ps_ret pe_bl)) pss_nil)
  (pss_one (ps_ret (pe_and (pe_callB (cr_all rfl) (by rfl) B.b_all (by decide +kernel) (pa_cons (pe_lc (own := [("weight", 2)]) (g := (gName 2)) rfl nd (show PI _ _ _ (iTup Cl.K _) from pi_tup (pv 0)) (blkOk_by (N := _) (by rfl)) (fun _ _ _ _ _ => (pg_name (i := 2) nd rfl (by first | exact Or.inl rfl | exact Or.inr rfl))) (fun _ _ _ _ _ => pts_nil) (fun _ _ _ _ _ => (C8.pe_c h_is_count hr (by decide) (by rfl) (pa_cons (pv 2) pa_nil)))) pa_nil)) (pe_one (pe_cmpR op_gt (pe_callB (cr_sumT rfl) (by rfl) B.b_sum (by decide +kernel) (pa_cons (pv 0) pa_nil)) pe_int (nomark _))))))), ?_⟩
  exact run_fn (fun I d => (z_seq (z_if (t_or (t_not (t_b (s_cb bs_isi (s_cons s_var (s_cons (s_C fun _ => .ty _) s_nil))))) (t_b (s_op os_ne (s_cb bs_lenQ (s_cons s_var s_nil)) s_var))) (z_ret (s_C fun _ => .bl _)) z_next)
  (z_ret (s_andV (s_cb bs_all (s_cons (SO.se (SOp'.so (o_lc (i_tup s_var) g_name (by decide) t_yes' (s_call (fun _ => .nil) (s_cons s_var s_nil))))) s_nil)) (s_op os_gt (s_cb bs_sumT (s_cons s_var s_nil)) (s_C fun _ => .int _)))))) h

abbrev s_weighs_up : Stmt := top 27
theorem sc_weighs_up : FnScope ["value", "columns", "row"] ["value", "columns"] (C8.fnScope s_weighs_up) := C8.fnScope_by (by decide +kernel)
def m_weighs_up : MS := (mRet (mAndV (mCall 2 f_is_weights [] (mCons (mVar 0) (mCons (mCB bLenQ (mCons (mVar 1) mNil)) mNil))) (mCB bAll (mCons (mLc (miZipN (mVar 1)) (mgN 2) mYes (mOp (oI0 fun i j => .bl (decide (j ≤ i))) (mCall 2 f_weighed [] (mCons (mVar 0) (mCons (mVar 2) mNil))) (mC (.int 0))) [2]) mNil))))
def f_weighs_up : Fn := fnM 3 m_weighs_up
theorem c_weighs_up (B : Bl mg) (h_weighed : C8.Cal P w Cl.K mg base 1 "weighed" (spT 2 f_weighed) []) (h_is_weights : C8.Cal P w Cl.K mg base 3 "is_weights" (spT 2 f_is_weights) []) (D : DefX Cl.K mg "weighs_up" s_weighs_up) : C8.Cal P w Cl.K mg base 4 "weighs_up" (spT 2 f_weighs_up) [] := by
  refine cal_of D sc_weighs_up (fun _ _ _ _ _ _ us hl => match us, hl with | [_, _], _ => rfl) (fun vs H Q E h => spT_len h) (fun f cdv A outer s H vs Q E hr h => ?_)
  have nd := sc_weighs_up.nd
  have hu := hu_of hr
  refine ⟨_, (pss_one (ps_ret (pe_and (C8.pe_c h_is_weights hr (by decide) (by rfl) (pa_cons (pv 0) (pa_cons (pe_callB call_len_seq' (by rfl) B.b_len (by decide +kernel) (pa_cons (pv 1) pa_nil)) pa_nil))) (pe_one (pe_callB (cr_all rfl) (by rfl) B.b_all (by decide +kernel) (pa_cons (pe_lc (own := [("row", 2)]) (g := (gName 2)) rfl nd (show PI _ _ _ (ZN.iZipN Cl.K _) from ZN.pi_zipN (by rfl) B.b_zip (pv 1)) (blkOk_by (N := _) (by rfl)) (fun _ _ _ _ _ => (pg_name (i := 2) nd rfl (by first | exact Or.inl rfl | exact Or.inr rfl))) (fun _ _ _ _ _ => pts_nil) (fun _ _ _ _ _ => (pe_cmpR op_ge (C8.pe_c h_weighed hr (by decide) (by rfl) (pa_cons (pv 0) (pa_cons (pv 2) pa_nil))) pe_int (nomark _)))) pa_nil)))))), ?_⟩
  exact run_fn (fun I d => (z_ret (s_andV (s_call (fun _ => .nil) (s_cons s_var (s_cons (s_cb bs_lenQ (s_cons s_var s_nil)) s_nil))) (s_cb bs_all (s_cons (SO.se (SOp'.so (o_lc (i_zipN s_var) g_name (by decide) t_yes' (s_op os_ge (s_call (fun _ => .nil) (s_cons s_var (s_cons s_var s_nil))) (s_C fun _ => .int _))))) s_nil))))) h

abbrev s_is_paper_in : Stmt := top 44
theorem sc_is_paper_in : FnScope ["one", "other", "ranges", "value", "total", "ones", "others", "weights", "column"] ["one", "other", "ranges", "value", "total"] (C8.fnScope s_is_paper_in) := C8.fnScope_by (by decide +kernel)
def m_is_paper_in : MS := (mSeq (mAsg (mCall 4 f_columns_of_both [] (mCons (mVar 0) (mCons (mVar 1) (mCons (mVar 2) (mCons (mVar 4) mNil))))) (mgT 2 (mgCons (mgN 5) (mgCons (mgN 6) mgNil))))
  (mSeq (mIfS (mOr (mNot (mTB (mCB bIsi (mCons (mVar 3) (mCons (mC (.ty "list")) mNil))))) (mTB (mOp oNe (mCB bLenQ (mCons (mVar 3) mNil)) (mCB bLenQ (mCons (mVar 5) mNil))))) (mRet (mC (.bl false))) mNext)
  (mRet (mCB bAll (mCons (mLc (miZip2 (mCons (mVar 3) (mCons (mVar 5) mNil))) (mgT 2 (mgCons (mgN 7) (mgCons (mgN 8) mgNil))) mYes (mCall 2 f_weighs_up [] (mCons (mVar 7) (mCons (mCall 2 f_gaps [] (mCons (mVar 6) (mCons (mVar 8) mNil))) mNil))) [7, 8]) mNil)))))
def f_is_paper_in : Fn := fnM 9 m_is_paper_in
theorem ok_is_paper_in (B : Bl mg) (h_columns_of_both : C8.Cal P w Cl.K mg base 6 "_columns_of_both" (spT 4 f_columns_of_both) []) (h_gaps : C8.Cal P w Cl.K mg base 1 "_gaps" (spT 2 f_gaps) []) (h_weighs_up : C8.Cal P w Cl.K mg base 4 "weighs_up" (spT 2 f_weighs_up) []) {g : Addr} {fd : FuncData} (F : C8.Fun Cl.K "is_paper_in" "is_paper_in" s_is_paper_in g fd) : FnOk P w Cl.K mg base C8.CX0 7 g fd ["one", "other", "ranges", "value", "total"] (spT 5 f_is_paper_in) := by
  refine C8.fn0 F sc_is_paper_in (fun vs H Q E h => spT_len h) (fun cdv A outer s H vs Q E hr h => ?_)
  have nd := sc_is_paper_in.nd
  have hu := hu_of hr
  refine ⟨_, (pss_cons (ps_asg (C8.pe_c h_columns_of_both hr (by decide) (by rfl) (pa_cons (pv 0) (pa_cons (pv 1) (pa_cons (pv 2) (pa_cons (pv 4) pa_nil))))) (pg_tup (n := 2) rfl (pgs_cons (pg_name (i := 5) nd rfl (by first | exact Or.inl rfl | exact Or.inr rfl)) (pgs_cons (pg_name (i := 6) nd rfl (by first | exact Or.inl rfl | exact Or.inr rfl)) pgs_nil))))
  (pss_cons (ps_if (PW.pt (pw_or (pt_not (pt_val (pe_callB call_isi (by rfl) B.b_isinstance (by decide +kernel) (pa_cons (pv 3) (pa_cons (pe_bltn (v := .ty "list") (by rfl) B.b_list (by decide +kernel) rfl) pa_nil))))) (pw_or1 (pt_cmpR op_ne (pe_callB call_len_seq' (by rfl) B.b_len (by decide +kernel) (pa_cons (pv 3) pa_nil)) (pe_callB call_len_seq' (by rfl) B.b_len (by decide +kernel) (pa_cons (pv 5) pa_nil)) (nomark _))))) (pss_one (ps_ret pe_bl)) pss_nil)
  (pss_one (ps_ret (pe_callB (cr_all rfl) (by rfl) B.b_all (by decide +kernel) (pa_cons (pe_lc (own := [("weights", 7), ("column", 8)]) (g := (gTup Cl.K 2 (gCons (gName 7) (gCons (gName 8) gNil)))) rfl nd (show PI _ _ _ (ZN.iZip2 Cl.K _) from ZN.pi_zip2 (by rfl) B.b_zip (pa_cons (pv 3) (pa_cons (pv 5) pa_nil))) (blkOk_by (N := _) (by rfl)) (fun _ _ _ _ _ => (pg_tup (n := 2) rfl (pgs_cons (pg_name (i := 7) nd rfl (by first | exact Or.inl rfl | exact Or.inr rfl)) (pgs_cons (pg_name (i := 8) nd rfl (by first | exact Or.inl rfl | exact Or.inr rfl)) pgs_nil)))) (fun _ _ _ _ _ => pts_nil) (fun _ _ _ _ _ => (C8.pe_c h_weighs_up hr (by decide) (by rfl) (pa_cons (pv 7) (pa_cons (C8.pe_c h_gaps hr (by decide) (by rfl) (pa_cons (pv 6) (pa_cons (pv 8) pa_nil))) pa_nil))))) pa_nil)))))), ?_⟩
  exact run_fn (fun I d => (z_seq (z_asg (s_call (fun _ => .nil) (s_cons s_var (s_cons s_var (s_cons s_var (s_cons s_var s_nil))))) (g_tup (g_cons g_name (g_cons g_name g_nil))) (.inl rfl))
  (z_seq (z_if (t_or (t_not (t_b (s_cb bs_isi (s_cons s_var (s_cons (s_C fun _ => .ty _) s_nil))))) (t_b (s_op os_ne (s_cb bs_lenQ (s_cons s_var s_nil)) (s_cb bs_lenQ (s_cons s_var s_nil))))) (z_ret (s_C fun _ => .bl _)) z_next)
  (z_ret (s_cb bs_all (s_cons (SO.se (SOp'.so (o_lc (i_zip2 (s_cons s_var (s_cons s_var s_nil))) (g_tup (g_cons g_name (g_cons g_name g_nil))) (by decide) t_yes' (s_call (fun _ => .nil) (s_cons s_var (s_cons (s_call (fun _ => .nil) (s_cons s_var (s_cons s_var s_nil))) s_nil)))))) s_nil)))))) h

abbrev s_later_in : Stmt := top 45
theorem sc_later_in : FnScope ["one", "other", "ranges", "total", "ones", "others", "column", "weights"] ["one", "other", "ranges", "total"] (C8.fnScope s_later_in) := C8.fnScope_by (by decide +kernel)
def m_later_in : MS := (mSeq (mAsg (mCall 4 f_columns_of_both [] (mCons (mVar 0) (mCons (mVar 1) (mCons (mVar 2) (mCons (mVar 3) mNil))))) (mgT 2 (mgCons (mgN 4) (mgCons (mgN 5) mgNil))))
  (mSeq (mFor (miL (mVar 4)) (mgN 6)
  (mSeq (mAsg (mOp oIxT (mCall 2 f_weigh_up [] (mCons (mCall 2 f_gaps [] (mCons (mVar 5) (mCons (mVar 6) mNil))) (mCons (mCB bLenQ (mCons (mVar 6) mNil)) mNil))) (mC (.int 1))) (mgN 7))
  (mIfS (mTB (mOp (oNone false) (mVar 7) (mC .non))) (mRet (mVar 7)) mNext)))
  (mRet (mC .non))))
def f_later_in : Fn := fnM 8 m_later_in
theorem ok_later_in (B : Bl mg) (h_columns_of_both : C8.Cal P w Cl.K mg base 6 "_columns_of_both" (spT 4 f_columns_of_both) []) (h_gaps : C8.Cal P w Cl.K mg base 1 "_gaps" (spT 2 f_gaps) []) (h_weigh_up : C8.Cal P w Cl.K mg base 6 "weigh_up" (spT 2 f_weigh_up) []) {g : Addr} {fd : FuncData} (F : C8.Fun Cl.K "later_in" "later_in" s_later_in g fd) : FnOk P w Cl.K mg base C8.CX0 7 g fd ["one", "other", "ranges", "total"] (spT 4 f_later_in) := by
  refine C8.fn0 F sc_later_in (fun vs H Q E h => spT_len h) (fun cdv A outer s H vs Q E hr h => ?_)
  have nd := sc_later_in.nd
  have hu := hu_of hr
  refine ⟨_, (pss_cons (ps_asg (C8.pe_c h_columns_of_both hr (by decide) (by rfl) (pa_cons (pv 0) (pa_cons (pv 1) (pa_cons (pv 2) (pa_cons (pv 3) pa_nil))))) (pg_tup (n := 2) rfl (pgs_cons (pg_name (i := 4) nd rfl (by first | exact Or.inl rfl | exact Or.inr rfl)) (pgs_cons (pg_name (i := 5) nd rfl (by first | exact Or.inl rfl | exact Or.inr rfl)) pgs_nil))))
  (pss_cons (ps_for PassesOwn.never rfl (show PI _ _ _ (iList Cl.K _) from pi_list (pv 4)) (pg_name (i := 6) nd rfl (by first | exact Or.inl rfl | exact Or.inr rfl))
  (pss_cons (ps_set (i := 7) nd rfl (Or.inl rfl) (pe_ix (show IxR _ (rIxT Cl.K) from ix_tup) (C8.pe_c h_weigh_up hr (by decide) (by rfl) (pa_cons (C8.pe_c h_gaps hr (by decide) (by rfl) (pa_cons (pv 5) (pa_cons (pv 6) pa_nil))) (pa_cons (pe_callB call_len_seq' (by rfl) B.b_len (by decide +kernel) (pa_cons (pv 6) pa_nil)) pa_nil))) pe_int (fun _ _ => rfl)))
  (pss_one (ps_if (pt_cmpR op_notNil (pv 7) pe_non (nomark _)) (pss_one (ps_ret (pv 7))) pss_nil))))
  (pss_one (ps_ret pe_non)))), ?_⟩
  exact run_fn (fun I d => (z_seq (z_asg (s_call (fun _ => .nil) (s_cons s_var (s_cons s_var (s_cons s_var (s_cons s_var s_nil))))) (g_tup (g_cons g_name (g_cons g_name g_nil))) (.inl rfl))
  (z_seq (z_for (i_list s_var) g_name (.inl rfl)
  (z_seq (z_asg (s_op os_ixT' (s_call (fun _ => .nil) (s_cons (s_call (fun _ => .nil) (s_cons s_var (s_cons s_var s_nil))) (s_cons (s_cb bs_lenQ (s_cons s_var s_nil)) s_nil))) (s_C fun _ => .int _)) g_name (.inl rfl))
  (z_if (t_b (s_op os_notN s_var (s_C fun _ => .non))) (z_ret s_var) z_next)))
  (z_ret (s_C fun _ => .non))))) h

abbrev s_paper_in : Stmt := top 43
theorem sc_paper_in : FnScope ["one", "other", "ranges", "total", "ones", "others", "told", "column", "weights"] ["one", "other", "ranges", "total"] (C8.fnScope s_paper_in) := C8.fnScope_by (by decide +kernel)
def m_paper_in : MS := (mSeq (mAsg (mCall 4 f_columns_of_both [] (mCons (mVar 0) (mCons (mVar 1) (mCons (mVar 2) (mCons (mVar 3) mNil))))) (mgT 2 (mgCons (mgN 4) (mgCons (mgN 5) mgNil))))
  (mSeq (mAsgO (mLst mNil) 6)
  (mSeq (mFor (miL (mVar 4)) (mgN 7)
  (mSeq (mAsg (mOp oIxT (mCall 2 f_weigh_up [] (mCons (mCall 2 f_gaps [] (mCons (mVar 5) (mCons (mVar 7) mNil))) (mCons (mCB bLenQ (mCons (mVar 7) mNil)) mNil))) (mC (.int 0))) (mgN 8))
  (mSeq (mIfS (mTB (mOp (oNone true) (mVar 8) (mC .non))) (mRet (mC .non)) mNext)
  (mAppend 6 (mVar 8)))))
  (mFrz [6] (mRet (mVar 6))))))
def f_paper_in : Fn := fnM 9 m_paper_in
theorem ok_paper_in (B : Bl mg) (h_columns_of_both : C8.Cal P w Cl.K mg base 6 "_columns_of_both" (spT 4 f_columns_of_both) []) (h_gaps : C8.Cal P w Cl.K mg base 1 "_gaps" (spT 2 f_gaps) []) (h_weigh_up : C8.Cal P w Cl.K mg base 6 "weigh_up" (spT 2 f_weigh_up) []) {g : Addr} {fd : FuncData} (F : C8.Fun Cl.K "paper_in" "paper_in" s_paper_in g fd) : FnOk P w Cl.K mg base C8.CX0 7 g fd ["one", "other", "ranges", "total"] (spT 4 f_paper_in) := by
  refine C8.fn0 F sc_paper_in (fun vs H Q E h => spT_len h) (fun cdv A outer s H vs Q E hr h => ?_)
  have nd := sc_paper_in.nd
  have hu := hu_of hr
  refine ⟨_, (pss_cons (ps_asg (C8.pe_c h_columns_of_both hr (by decide) (by rfl) (pa_cons (pv 0) (pa_cons (pv 1) (pa_cons (pv 2) (pa_cons (pv 3) pa_nil))))) (pg_tup (n := 2) rfl (pgs_cons (pg_name (i := 4) nd rfl (by first | exact Or.inl rfl | exact Or.inr rfl)) (pgs_cons (pg_name (i := 5) nd rfl (by first | exact Or.inl rfl | exact Or.inr rfl)) pgs_nil))))
  (pss_cons (ps_set (i := 6) nd rfl (Or.inl rfl) (pe_lst pa_nil))
  (pss_cons (ps_for PassesOwn.never rfl (show PI _ _ _ (iList Cl.K _) from pi_list (pv 4)) (pg_name (i := 7) nd rfl (by first | exact Or.inl rfl | exact Or.inr rfl))
  (pss_cons (ps_set (i := 8) nd rfl (Or.inl rfl) (pe_ix (show IxR _ (rIxT Cl.K) from ix_tup) (C8.pe_c h_weigh_up hr (by decide) (by rfl) (pa_cons (C8.pe_c h_gaps hr (by decide) (by rfl) (pa_cons (pv 5) (pa_cons (pv 7) pa_nil))) (pa_cons (pe_callB call_len_seq' (by rfl) B.b_len (by decide +kernel) (pa_cons (pv 7) pa_nil)) pa_nil))) pe_int (fun _ _ => rfl)))
  (pss_cons (ps_if (pt_cmpR op_isNil (pv 8) pe_non (nomark _)) (pss_one (ps_ret pe_non)) pss_nil)
  (pss_one (ps_expr (pe_bm PySem.F.plainAttrs_list PySem.F.slot_list_append PySem.F.type_list_append mt_append (pv 6) (pa_cons (pv 8) pa_nil)))))))
  (pss_one (ps_ret (pv 6)))))), ?_⟩
  exact run_fn (fun I d => (z_seq (z_asg (s_call (fun _ => .nil) (s_cons s_var (s_cons s_var (s_cons s_var (s_cons s_var s_nil))))) (g_tup (g_cons g_name (g_cons g_name g_nil))) (.inl rfl))
  (z_seq (z_asgO (o_lst s_nil) (.inl rfl))
  (z_seq (z_for (i_list s_var) g_name (.inl rfl)
  (z_seq (z_asg (s_op os_ixT' (s_call (fun _ => .nil) (s_cons (s_call (fun _ => .nil) (s_cons s_var (s_cons s_var s_nil))) (s_cons (s_cb bs_lenQ (s_cons s_var s_nil)) s_nil))) (s_C fun _ => .int _)) g_name (.inl rfl))
  (z_seq (z_if (t_b (s_op os_isN s_var (s_C fun _ => .non))) (z_ret (s_C fun _ => .non)) z_next)
  (z_append s_var))))
  (z_frz [6] (z_ret s_var)))))) h

abbrev s_greatest : Stmt := top 55
theorem sc_greatest : FnScope ["weights", "columns", "column"] ["weights", "columns"] (C8.fnScope s_greatest) := C8.fnScope_by (by decide +kernel)
def m_greatest : MS := (mRet (mCB bMax (mCons (mLc (miL (mVar 1)) (mgN 2) mYes (mCall 2 f_weighed [] (mCons (mVar 0) (mCons (mVar 2) mNil))) [2]) mNil)))
def f_greatest : Fn := fnM 3 m_greatest
theorem c_greatest (B : Bl mg) (h_weighed : C8.Cal P w Cl.K mg base 1 "weighed" (spT 2 f_weighed) []) (D : DefX Cl.K mg "_greatest" s_greatest) : C8.Cal P w Cl.K mg base 2 "_greatest" (spT 2 f_greatest) [] := by
  refine cal_of D sc_greatest (fun _ _ _ _ _ _ us hl => match us, hl with | [_, _], _ => rfl) (fun vs H Q E h => spT_len h) (fun f cdv A outer s H vs Q E hr h => ?_)
  have nd := sc_greatest.nd
  have hu := hu_of hr
  refine ⟨_, (pss_one (ps_ret (pe_callB (cr_max rfl) (by rfl) B.b_max (by decide +kernel) (pa_cons (pe_lc (own := [("column", 2)]) (g := (gName 2)) rfl nd (show PI _ _ _ (iList Cl.K _) from pi_list (pv 1)) (blkOk_by (N := _) (by rfl)) (fun _ _ _ _ _ => (pg_name (i := 2) nd rfl (by first | exact Or.inl rfl | exact Or.inr rfl))) (fun _ _ _ _ _ => pts_nil) (fun _ _ _ _ _ => (C8.pe_c h_weighed hr (by decide) (by rfl) (pa_cons (pv 0) (pa_cons (pv 2) pa_nil))))) pa_nil)))), ?_⟩
  exact run_fn (fun I d => (z_ret (s_cb bs_max (s_cons (SO.se (SOp'.so (o_lc (i_list s_var) g_name (by decide) t_yes' (s_call (fun _ => .nil) (s_cons s_var (s_cons s_var s_nil)))))) s_nil)))) h

abbrev s_is_later_in : Stmt := top 46
theorem sc_is_later_in : FnScope ["one", "other", "ranges", "value", "total", "ones", "others"] ["one", "other", "ranges", "value", "total"] (C8.fnScope s_is_later_in) := C8.fnScope_by (by decide +kernel)
def m_is_later_in : MS := (mSeq (mAsg (mCall 4 f_columns_of_both [] (mCons (mVar 0) (mCons (mVar 1) (mCons (mVar 2) (mCons (mVar 4) mNil))))) (mgT 2 (mgCons (mgN 5) (mgCons (mgN 6) mgNil))))
  (mRet (mAndV (mCall 2 f_is_weights [] (mCons (mVar 3) (mCons (mCB bLenQ (mCons (mOp oIxL (mVar 5) (mC (.int 0))) mNil)) mNil))) (mOp (oI0 fun i j => .bl (decide (j < i))) (mCall 2 f_greatest [] (mCons (mVar 3) (mCons (mVar 5) mNil))) (mCall 2 f_greatest [] (mCons (mVar 3) (mCons (mVar 6) mNil)))))))
def f_is_later_in : Fn := fnM 7 m_is_later_in
theorem ok_is_later_in (B : Bl mg) (h_columns_of_both : C8.Cal P w Cl.K mg base 6 "_columns_of_both" (spT 4 f_columns_of_both) []) (h_greatest : C8.Cal P w Cl.K mg base 2 "_greatest" (spT 2 f_greatest) []) (h_is_weights : C8.Cal P w Cl.K mg base 3 "is_weights" (spT 2 f_is_weights) []) {g : Addr} {fd : FuncData} (F : C8.Fun Cl.K "is_later_in" "is_later_in" s_is_later_in g fd) : FnOk P w Cl.K mg base C8.CX0 7 g fd ["one", "other", "ranges", "value", "total"] (spT 5 f_is_later_in) := by
  refine C8.fn0 F sc_is_later_in (fun vs H Q E h => spT_len h) (fun cdv A outer s H vs Q E hr h => ?_)
  have nd := sc_is_later_in.nd
  have hu := hu_of hr
  refine ⟨_, (pss_cons (ps_asg (C8.pe_c h_columns_of_both hr (by decide) (by rfl) (pa_cons (pv 0) (pa_cons (pv 1) (pa_cons (pv 2) (pa_cons (pv 4) pa_nil))))) (pg_tup (n := 2) rfl (pgs_cons (pg_name (i := 5) nd rfl (by first | exact Or.inl rfl | exact Or.inr rfl)) (pgs_cons (pg_name (i := 6) nd rfl (by first | exact Or.inl rfl | exact Or.inr rfl)) pgs_nil))))
  (pss_one (ps_ret (pe_and (C8.pe_c h_is_weights hr (by decide) (by rfl) (pa_cons (pv 3) (pa_cons (pe_callB call_len_seq' (by rfl) B.b_len (by decide +kernel) (pa_cons (pe_ix (show IxR _ (rIxL Cl.K) from ix_list) (pv 5) pe_int (fun _ _ => rfl)) pa_nil)) pa_nil))) (pe_one (pe_cmpR op_gt (C8.pe_c h_greatest hr (by decide) (by rfl) (pa_cons (pv 3) (pa_cons (pv 5) pa_nil))) (C8.pe_c h_greatest hr (by decide) (by rfl) (pa_cons (pv 3) (pa_cons (pv 6) pa_nil))) (nomark _))))))), ?_⟩
  exact run_fn (fun I d => (z_seq (z_asg (s_call (fun _ => .nil) (s_cons s_var (s_cons s_var (s_cons s_var (s_cons s_var s_nil))))) (g_tup (g_cons g_name (g_cons g_name g_nil))) (.inl rfl))
  (z_ret (s_andV (s_call (fun _ => .nil) (s_cons s_var (s_cons (s_cb bs_lenQ (s_cons (s_op os_ixL' s_var (s_C fun _ => .int _)) s_nil)) s_nil))) (s_op os_gt (s_call (fun _ => .nil) (s_cons s_var (s_cons s_var s_nil))) (s_call (fun _ => .nil) (s_cons s_var (s_cons s_var s_nil)))))))) h

abbrev s_law_fixed_right : Stmt := top 68
theorem sc_law_fixed_right : FnScope ["days", "more", "one", "two", "bounds", "wide", "weights"] ["days", "more"] (C8.fnScope s_law_fixed_right) := C8.fnScope_by (by decide +kernel)
def m_law_fixed_right : MS := (mSeq (mPar 2 3 (mCons (mMake 1 f_Ends___init__ [] (mCons (mLst (mCons (mTup (mCons (mTup (mCons (mC (.str (Str.ofString "a"))) (mCons (mC (.int 1)) mNil))) (mCons (mTup (mCons (mC (.str (Str.ofString "b"))) (mCons (mC (.int 1)) mNil))) mNil))) mNil)) mNil)) (mCons (mMake 1 f_Ends___init__ [] (mCons (mLst (mCons (mTup (mCons (mTup (mCons (mC (.str (Str.ofString "a"))) (mCons (mC (.int 2)) mNil))) mNil)) mNil)) mNil)) mNil)))
  (mSeq (mPar 4 5 (mCons (mDisp [((mC (.str (Str.ofString "a"))), (mTup (mCons (mVar 0) (mCons (mOp (oI0 fun i j => .int (i + j)) (mVar 0) (mVar 1)) mNil)))), ((mC (.str (Str.ofString "b"))), (mTup (mCons (mC (.int 0)) (mCons (mVar 0) mNil))))]) (mCons (mDisp [((mC (.str (Str.ofString "a"))), (mTup (mCons (mVar 0) (mCons (mOp (oI0 fun i j => .int (i + j)) (mVar 0) (mVar 1)) mNil)))), ((mC (.str (Str.ofString "b"))), (mTup (mCons (mC (.int 0)) (mCons (mOp (oI0 fun i j => .int (i + j)) (mVar 0) (mC (.int 1))) mNil))))]) mNil)))
  (mSeq (mIfS (mOr (mTB (mOp (oNone true) (mCall 4 f_paper_in [.non] (mCons (mVar 2) (mCons (mVar 3) (mCons (mVar 4) mNil)))) (mC .non))) (mOr (mTB (mOp (oNone false) (mCall 4 f_later_in [.non] (mCons (mVar 2) (mCons (mVar 3) (mCons (mVar 4) mNil)))) (mC .non))) (mNot (mTB (mCall 5 f_is_paper_in [.non] (mCons (mVar 2) (mCons (mVar 3) (mCons (mVar 4) (mCons (mLst (mCons (mTup (mCons (mC (.int 3)) mNil)) mNil)) mNil))))))))) (mRet (mC (.bl false))) mNext)
  (mSeq (mAsg (mCall 4 f_later_in [.non] (mCons (mVar 2) (mCons (mVar 3) (mCons (mVar 5) mNil)))) (mgN 6))
  (mSeq (mIfS (mOr (mTB (mOp (oNone false) (mCall 4 f_paper_in [.non] (mCons (mVar 2) (mCons (mVar 3) (mCons (mVar 5) mNil)))) (mC .non))) (mOr (mNot (mTB (mCall 5 f_is_later_in [.non] (mCons (mVar 2) (mCons (mVar 3) (mCons (mVar 5) (mCons (mVar 6) mNil))))))) (mTB (mCall 5 f_is_paper_in [.non] (mCons (mVar 2) (mCons (mVar 3) (mCons (mVar 5) (mCons (mLst (mCons (mTup (mCons (mC (.int 1)) mNil)) mNil)) mNil)))))))) (mRet (mC (.bl false))) mNext)
  (mRet (mIf (mTB (mOp (oI0 fun i j => .bl (decide (j < i))) (mVar 1) (mC (.int 1)))) (mOp (oNone true) (mCallN 3 1 f_later_in (mCons (mVar 2) (mCons (mVar 3) (mCons (mVar 5) mNil))) (mCons (mOp (oI0 fun i j => .int (i + j)) (mOp (oI cMulB fun i j => .int (i * j)) (mC (.int 2)) (mVar 0)) (mVar 1)) mNil)) (mC .non)) (mC (.bl true)))))))))
def f_law_fixed_right : Fn := fnM 7 m_law_fixed_right
theorem c_law_fixed_right (B : Bl mg) (h_mk_Ends_1 : C8.Mak P w Cl.K mg base 9 "Ends" (Cl.ad 6) (spI 6 1 f_Ends___init__) []) (h_ds_Ends_1 : ∀ (I : Tt) (F : Hp), RTs F [] []) (h_is_paper_in : C8.Cal P w Cl.K mg base 7 "is_paper_in" (spT 5 f_is_paper_in) [.non]) (h_later_in : C8.Cal P w Cl.K mg base 7 "later_in" (spT 4 f_later_in) [.non]) (h_paper_in : C8.Cal P w Cl.K mg base 7 "paper_in" (spT 4 f_paper_in) [.non]) (h_is_later_in : C8.Cal P w Cl.K mg base 7 "is_later_in" (spT 5 f_is_later_in) [.non]) (h_kw_later_in : CalN P w Cl.K mg base 7 "later_in" 3 ["total"] (spT (3 + 1) f_later_in)) (D : DefX Cl.K mg "_law_fixed_right" s_law_fixed_right) : C8.Cal P w Cl.K mg base 11 "_law_fixed_right" (spT 2 f_law_fixed_right) [] := by
  refine cal_of D sc_law_fixed_right (fun _ _ _ _ _ _ us hl => match us, hl with | [_, _], _ => rfl) (fun vs H Q E h => spT_len h) (fun f cdv A outer s H vs Q E hr h => ?_)
  have nd := sc_law_fixed_right.nd
  have hu := hu_of hr
  refine ⟨_, (pss_cons (ps_par (i := 2) (j := 3) rfl nd rfl rfl (by decide) rfl rfl (pa_cons (C8.pe_mk h_mk_Ends_1 hr (by decide) (by rfl) (pa_cons (pe_lst (pa_cons (pe_tupB (pa_cons (pe_tupB (pa_cons pe_str (pa_cons pe_int pa_nil))) (pa_cons (pe_tupB (pa_cons pe_str (pa_cons pe_int pa_nil))) pa_nil))) pa_nil)) pa_nil)) (pa_cons (C8.pe_mk h_mk_Ends_1 hr (by decide) (by rfl) (pa_cons (pe_lst (pa_cons (pe_tupB (pa_cons (pe_tupB (pa_cons pe_str (pa_cons pe_int pa_nil))) pa_nil)) pa_nil)) pa_nil)) pa_nil)) rfl)
  (pss_cons (ps_par (i := 4) (j := 5) rfl nd rfl rfl (by decide) rfl rfl (pa_cons (pe_disp (pps_cons pe_str (pe_tupB (pa_cons (pv 0) (pa_cons (pe_op op_add (pv 0) (pv 1)) pa_nil))) (pps_cons pe_str (pe_tupB (pa_cons pe_int (pa_cons (pv 0) pa_nil))) pps_nil)) (by rfl) (by rfl) (fun z => by cases z) (by decide)) (pa_cons (pe_disp (pps_cons pe_str (pe_tupB (pa_cons (pv 0) (pa_cons (pe_op op_add (pv 0) (pv 1)) pa_nil))) (pps_cons pe_str (pe_tupB (pa_cons pe_int (pa_cons (pe_op op_add (pv 0) pe_int) pa_nil))) pps_nil)) (by rfl) (by rfl) (fun z => by cases z) (by decide)) pa_nil)) rfl)
  (pss_cons (ps_if (PW.pt (pw_or (pt_cmpR op_isNil (C8.pe_c h_paper_in hr (by decide) (by rfl) (pa_cons (pv 2) (pa_cons (pv 3) (pa_cons (pv 4) pa_nil)))) pe_non (nomark _)) (pw_or (pt_cmpR op_notNil (C8.pe_c h_later_in hr (by decide) (by rfl) (pa_cons (pv 2) (pa_cons (pv 3) (pa_cons (pv 4) pa_nil)))) pe_non (nomark _)) (pw_or1 (pt_not (pt_val (C8.pe_c h_is_paper_in hr (by decide) (by rfl) (pa_cons (pv 2) (pa_cons (pv 3) (pa_cons (pv 4) (pa_cons (pe_lst (pa_cons (pe_tupB (pa_cons pe_int pa_nil)) pa_nil)) pa_nil))))))))))) (pss_one (ps_ret pe_bl)) pss_nil)
  (pss_cons (ps_set (i := 6) nd rfl (Or.inl rfl) (C8.pe_c h_later_in hr (by decide) (by rfl) (pa_cons (pv 2) (pa_cons (pv 3) (pa_cons (pv 5) pa_nil)))))
  (pss_cons (ps_if (PW.pt (pw_or (pt_cmpR op_notNil (C8.pe_c h_paper_in hr (by decide) (by rfl) (pa_cons (pv 2) (pa_cons (pv 3) (pa_cons (pv 5) pa_nil)))) pe_non (nomark _)) (pw_or (pt_not (pt_val (C8.pe_c h_is_later_in hr (by decide) (by rfl) (pa_cons (pv 2) (pa_cons (pv 3) (pa_cons (pv 5) (pa_cons (pv 6) pa_nil))))))) (pw_or1 (pt_val (C8.pe_c h_is_paper_in hr (by decide) (by rfl) (pa_cons (pv 2) (pa_cons (pv 3) (pa_cons (pv 5) (pa_cons (pe_lst (pa_cons (pe_tupB (pa_cons pe_int pa_nil)) pa_nil)) pa_nil)))))))))) (pss_one (ps_ret pe_bl)) pss_nil)
  (pss_one (ps_ret (pe_ifExp (pt_cmpR op_gt (pv 1) pe_int (nomark _)) (pe_cmpR op_isNil (pe_cN h_kw_later_in hr (by decide) (by rfl) (pa_cons (pv 2) (pa_cons (pv 3) (pa_cons (pv 5) pa_nil))) (pk_cons (pe_op op_add (pe_op op_mulB pe_int (pv 0)) (pv 1)) pk_nil)) pe_non (nomark _)) pe_bl)))))))), ?_⟩
  exact run_fn (fun I d => (z_seq (z_par (s_cons (SO.se (o_make (h_ds_Ends_1 I) (s_cons (SO.se (o_lst (s_cons (s_tup (s_cons (s_tup (s_cons (s_C fun _ => .str _) (s_cons (s_C fun _ => .int _) s_nil))) (s_cons (s_tup (s_cons (s_C fun _ => .str _) (s_cons (s_C fun _ => .int _) s_nil))) s_nil))) s_nil))) s_nil))) (s_cons (SO.se (o_make (h_ds_Ends_1 I) (s_cons (SO.se (o_lst (s_cons (s_tup (s_cons (s_tup (s_cons (s_C fun _ => .str _) (s_cons (s_C fun _ => .int _) s_nil))) s_nil)) s_nil))) s_nil))) s_nil)) (.inl rfl))
  (z_seq (z_par (s_cons (SO.se (o_disp (.cons (s_C fun _ => .str _) (s_tup (s_cons s_var (s_cons (s_op os_add s_var s_var) s_nil))) (.cons (s_C fun _ => .str _) (s_tup (s_cons (s_C fun _ => .int _) (s_cons s_var s_nil))) .nil)))) (s_cons (SO.se (o_disp (.cons (s_C fun _ => .str _) (s_tup (s_cons s_var (s_cons (s_op os_add s_var s_var) s_nil))) (.cons (s_C fun _ => .str _) (s_tup (s_cons (s_C fun _ => .int _) (s_cons (s_op os_add s_var (s_C fun _ => .int _)) s_nil))) .nil)))) s_nil)) (.inl rfl))
  (z_seq (z_if (t_or (t_b (s_op os_isN (s_call (fun _ => (.cons .non .nil)) (s_cons s_var (s_cons s_var (s_cons s_var s_nil)))) (s_C fun _ => .non))) (t_or (t_b (s_op os_notN (s_call (fun _ => (.cons .non .nil)) (s_cons s_var (s_cons s_var (s_cons s_var s_nil)))) (s_C fun _ => .non))) (t_not (t_b (s_call (fun _ => (.cons .non .nil)) (s_cons s_var (s_cons s_var (s_cons s_var (s_cons (SO.se (o_lst (s_cons (s_tup (s_cons (s_C fun _ => .int _) s_nil)) s_nil))) s_nil))))))))) (z_ret (s_C fun _ => .bl _)) z_next)
  (z_seq (z_asg (s_call (fun _ => (.cons .non .nil)) (s_cons s_var (s_cons s_var (s_cons s_var s_nil)))) g_name (.inl rfl))
  (z_seq (z_if (t_or (t_b (s_op os_notN (s_call (fun _ => (.cons .non .nil)) (s_cons s_var (s_cons s_var (s_cons s_var s_nil)))) (s_C fun _ => .non))) (t_or (t_not (t_b (s_call (fun _ => (.cons .non .nil)) (s_cons s_var (s_cons s_var (s_cons s_var (s_cons s_var s_nil))))))) (t_b (s_call (fun _ => (.cons .non .nil)) (s_cons s_var (s_cons s_var (s_cons s_var (s_cons (SO.se (o_lst (s_cons (s_tup (s_cons (s_C fun _ => .int _) s_nil)) s_nil))) s_nil)))))))) (z_ret (s_C fun _ => .bl _)) z_next)
  (z_ret (s_if (t_b (s_op os_gt s_var (s_C fun _ => .int _))) (s_op os_isN (s_callN (s_cons s_var (s_cons s_var (s_cons s_var s_nil))) (s_cons (s_op os_add (s_op os_mulB (s_C fun _ => .int _) s_var) s_var) s_nil)) (s_C fun _ => .non)) (s_C fun _ => .bl _))))))))) h

def g_law_fixed_right : Fn := fun ts k => match ts with
  | [.int a, .int b] => decide (0 ≤ a) && (decide (a < 12) && (decide (0 ≤ b) && (decide (b < 5) && k (.bl true))))
  | _ => false
theorem mn_law_fixed_right_0_0 : ((List.range 5).all fun b => f_law_fixed_right [.int 0, .int (((b + 0 : Nat) : Int))] isYes) = true := by decide +kernel
theorem mn_law_fixed_right_1_0 : ((List.range 5).all fun b => f_law_fixed_right [.int 1, .int (((b + 0 : Nat) : Int))] isYes) = true := by decide +kernel
theorem mn_law_fixed_right_2_0 : ((List.range 5).all fun b => f_law_fixed_right [.int 2, .int (((b + 0 : Nat) : Int))] isYes) = true := by decide +kernel
theorem mn_law_fixed_right_3_0 : ((List.range 5).all fun b => f_law_fixed_right [.int 3, .int (((b + 0 : Nat) : Int))] isYes) = true := by decide +kernel
theorem mn_law_fixed_right_4_0 : ((List.range 5).all fun b => f_law_fixed_right [.int 4, .int (((b + 0 : Nat) : Int))] isYes) = true := by decide +kernel
theorem mn_law_fixed_right_5_0 : ((List.range 5).all fun b => f_law_fixed_right [.int 5, .int (((b + 0 : Nat) : Int))] isYes) = true := by decide +kernel
theorem mn_law_fixed_right_6_0 : ((List.range 5).all fun b => f_law_fixed_right [.int 6, .int (((b + 0 : Nat) : Int))] isYes) = true := by decide +kernel
theorem mn_law_fixed_right_7_0 : ((List.range 5).all fun b => f_law_fixed_right [.int 7, .int (((b + 0 : Nat) : Int))] isYes) = true := by decide +kernel
theorem mn_law_fixed_right_8_0 : ((List.range 5).all fun b => f_law_fixed_right [.int 8, .int (((b + 0 : Nat) : Int))] isYes) = true := by decide +kernel
theorem mn_law_fixed_right_9_0 : ((List.range 5).all fun b => f_law_fixed_right [.int 9, .int (((b + 0 : Nat) : Int))] isYes) = true := by decide +kernel
theorem mn_law_fixed_right_10_0 : ((List.range 5).all fun b => f_law_fixed_right [.int 10, .int (((b + 0 : Nat) : Int))] isYes) = true := by decide +kernel
theorem mn_law_fixed_right_11_0 : ((List.range 5).all fun b => f_law_fixed_right [.int 11, .int (((b + 0 : Nat) : Int))] isYes) = true := by decide +kernel
theorem one_law_fixed_right {c b : Int} {q m : Nat} (h : ((List.range m).all fun b => f_law_fixed_right [.int c, .int (((b + q : Nat) : Int))] isYes) = true) (h1 : (q : Int) ≤ b) (h2 : b < q + m) : f_law_fixed_right [.int c, .int b] isYes = true := by
  have hb : (b - q).toNat ∈ List.range m := List.mem_range.mpr (by omega)
  have eb : ((((b - q).toNat + q : Nat) : Int)) = b := by omega
  have := List.all_eq_true.mp h _ hb
  rw [eb] at this
  exact this
theorem any_law_fixed_right {a b : Int} (h1 : 0 ≤ a) (h2 : a < 12) (h3 : 0 ≤ b) (h4 : b < 5) : f_law_fixed_right [.int a, .int b] isYes = true := by
  rcases (by omega : a = 0 ∨ a = 1 ∨ a = 2 ∨ a = 3 ∨ a = 4 ∨ a = 5 ∨ a = 6 ∨ a = 7 ∨ a = 8 ∨ a = 9 ∨ a = 10 ∨ a = 11) with e | e | e | e | e | e | e | e | e | e | e | e <;> subst e
  · exact one_law_fixed_right mn_law_fixed_right_0_0 (by omega) (by omega)
  · exact one_law_fixed_right mn_law_fixed_right_1_0 (by omega) (by omega)
  · exact one_law_fixed_right mn_law_fixed_right_2_0 (by omega) (by omega)
  · exact one_law_fixed_right mn_law_fixed_right_3_0 (by omega) (by omega)
  · exact one_law_fixed_right mn_law_fixed_right_4_0 (by omega) (by omega)
  · exact one_law_fixed_right mn_law_fixed_right_5_0 (by omega) (by omega)
  · exact one_law_fixed_right mn_law_fixed_right_6_0 (by omega) (by omega)
  · exact one_law_fixed_right mn_law_fixed_right_7_0 (by omega) (by omega)
  · exact one_law_fixed_right mn_law_fixed_right_8_0 (by omega) (by omega)
  · exact one_law_fixed_right mn_law_fixed_right_9_0 (by omega) (by omega)
  · exact one_law_fixed_right mn_law_fixed_right_10_0 (by omega) (by omega)
  · exact one_law_fixed_right mn_law_fixed_right_11_0 (by omega) (by omega)
theorem ref_law_fixed_right : Ref f_law_fixed_right g_law_fixed_right := by
  intro ts k h
  unfold g_law_fixed_right at h
  split at h
  · rename_i a b
    simp only [Bool.and_eq_true, decide_eq_true_eq] at h
    exact ⟨isYes, any_law_fixed_right h.1 h.2.1 h.2.2.1 h.2.2.2.1, fun t ht => by rw [isYes_eq ht]; exact h.2.2.2.2⟩
  · cases h


abbrev s_amounts : Stmt := top 40
theorem sc_amounts : FnScope ["ends", "ranges", "total", "chains", "chain", "lengths"] ["ends", "ranges", "total"] (C8.fnScope s_amounts) := C8.fnScope_by (by decide +kernel)
def m_amounts : MS := (mSeq (mDrop (mCall 2 f_check_names [] (mCons (mVar 1) (mCons (mProp 6 f_Ends_names (mVar 0)) mNil))))
  (mSeq (mAsg (mProp 6 f_Ends_chains (mVar 0)) (mgN 3))
  (mRet (mLc (miL (mCallN 1 1 f_corners (mCons (mVar 1) mNil) (mCons (mVar 2) mNil))) (mgN 5) mYes (mLc (miL (mVar 3)) (mgN 4) mYes (mCall 2 f_amount [] (mCons (mVar 4) (mCons (mVar 5) mNil))) [4]) [5]))))
def f_amounts : Fn := fnM 6 m_amounts
theorem ok_amounts (B : Bl mg) (h_p_Ends_names : PrpOk P w Cl.K mg base 1 (Cl.ad 6) "names" (spT 1 f_Ends_names)) (h_check_names : C8.Cal P w Cl.K mg base 5 "_check_names" (spT 2 f_check_names) []) (h_p_Ends_chains : PrpOk P w Cl.K mg base 1 (Cl.ad 6) "chains" (spT 1 f_Ends_chains)) (h_kw_corners : CalN P w Cl.K mg base 5 "corners" 1 ["total"] (spT (1 + 1) f_corners)) (h_amount : C8.Cal P w Cl.K mg base 4 "amount" (spT 2 f_amount) []) {g : Addr} {fd : FuncData} (F : C8.Fun Cl.K "amounts" "amounts" s_amounts g fd) : FnOk P w Cl.K mg base C8.CX0 6 g fd ["ends", "ranges", "total"] (spT 3 f_amounts) := by
  refine C8.fn0 F sc_amounts (fun vs H Q E h => spT_len h) (fun cdv A outer s H vs Q E hr h => ?_)
  have nd := sc_amounts.nd
  have hu := hu_of hr
  refine ⟨_, (pss_cons (ps_expr (C8.pe_c h_check_names hr (by decide) (by rfl) (pa_cons (pv 1) (pa_cons (pe_pr h_p_Ends_names hr (by decide) (pv 0) rfl) pa_nil))))
  (pss_cons (ps_set (i := 3) nd rfl (Or.inr rfl) (pe_pr h_p_Ends_chains hr (by decide) (pv 0) rfl))
  (pss_one (ps_ret (pe_lc (own := [("lengths", 5)]) (g := (gName 5)) rfl nd (show PI _ _ _ (iList Cl.K _) from pi_list (pe_cN h_kw_corners hr (by decide) (by rfl) (pa_cons (pv 1) pa_nil) (pk_cons (pv 2) pk_nil))) (blkOk_by (N := _) (by rfl)) (fun _ _ _ _ _ => (pg_name (i := 5) nd rfl (by first | exact Or.inl rfl | exact Or.inr rfl))) (fun _ _ _ _ _ => pts_nil) (fun _ _ _ _ _ => (pe_lc (own := [("chain", 4)]) (g := (gName 4)) rfl nd (show PI _ _ _ (iList Cl.K _) from pi_list (pv 3)) (blkOk_by (N := _) (by rfl)) (fun _ _ _ _ _ => (pg_name (i := 4) nd rfl (by first | exact Or.inl rfl | exact Or.inr rfl))) (fun _ _ _ _ _ => pts_nil) (fun _ _ _ _ _ => (C8.pe_c h_amount hr (by decide) (by rfl) (pa_cons (pv 4) (pa_cons (pv 5) pa_nil))))))))))), ?_⟩
  exact run_fn (fun I d => (z_seq (z_drop (s_call (fun _ => .nil) (s_cons s_var (s_cons (s_prop s_var) s_nil))))
  (z_seq (z_asg (s_prop s_var) g_name (.inl rfl))
  (z_ret (SO.se (SOp'.so (o_lc (i_list (s_callN (s_cons s_var s_nil) (s_cons s_var s_nil))) g_name (by decide) t_yes' (SO.se (SOp'.so (o_lc (i_list s_var) g_name (by decide) t_yes' (s_call (fun _ => .nil) (s_cons s_var (s_cons s_var s_nil))))))))))))) h

abbrev s_least_end_in : Stmt := top 42
theorem sc_least_end_in : FnScope ["ends", "ranges", "total"] ["ends", "ranges", "total"] (C8.fnScope s_least_end_in) := C8.fnScope_by (by decide +kernel)
def m_least_end_in : MS := (mRet (mOp oIxT (mCall 1 f_settled [] (mCons (mCallN 2 1 f_amounts (mCons (mVar 0) (mCons (mVar 1) mNil)) (mCons (mVar 2) mNil)) mNil)) (mC (.int 0))))
def f_least_end_in : Fn := fnM 3 m_least_end_in
theorem ok_least_end_in (B : Bl mg) (h_kw_amounts : CalN P w Cl.K mg base 6 "amounts" 2 ["total"] (spT (2 + 1) f_amounts)) (h_settled : C8.Cal P w Cl.K mg base 5 "settled" (spT 1 f_settled) []) {g : Addr} {fd : FuncData} (F : C8.Fun Cl.K "least_end_in" "least_end_in" s_least_end_in g fd) : FnOk P w Cl.K mg base C8.CX0 7 g fd ["ends", "ranges", "total"] (spT 3 f_least_end_in) := by
  refine C8.fn0 F sc_least_end_in (fun vs H Q E h => spT_len h) (fun cdv A outer s H vs Q E hr h => ?_)
  have nd := sc_least_end_in.nd
  have hu := hu_of hr
  refine ⟨_, (pss_one (ps_ret (pe_ix (show IxR _ (rIxT Cl.K) from ix_tup) (C8.pe_c h_settled hr (by decide) (by rfl) (pa_cons (pe_cN h_kw_amounts hr (by decide) (by rfl) (pa_cons (pv 0) (pa_cons (pv 1) pa_nil)) (pk_cons (pv 2) pk_nil)) pa_nil)) pe_int (fun _ _ => rfl)))), ?_⟩
  exact run_fn (fun I d => (z_ret (s_op os_ixT' (s_call (fun _ => .nil) (s_cons (s_callN (s_cons s_var (s_cons s_var s_nil)) (s_cons s_var s_nil)) s_nil)) (s_C fun _ => .int _)))) h

abbrev s_greatest_end : Stmt := top 41
theorem sc_greatest_end : FnScope ["ends", "ranges", "total", "row"] ["ends", "ranges", "total"] (C8.fnScope s_greatest_end) := C8.fnScope_by (by decide +kernel)
def m_greatest_end : MS := (mRet (mCB bMax (mCons (mLc (miL (mCallN 2 1 f_amounts (mCons (mVar 0) (mCons (mVar 1) mNil)) (mCons (mVar 2) mNil))) (mgN 3) mYes (mCB bMax (mCons (mVar 3) mNil)) [3]) mNil)))
def f_greatest_end : Fn := fnM 4 m_greatest_end
theorem ok_greatest_end (B : Bl mg) (h_kw_amounts : CalN P w Cl.K mg base 6 "amounts" 2 ["total"] (spT (2 + 1) f_amounts)) {g : Addr} {fd : FuncData} (F : C8.Fun Cl.K "greatest_end" "greatest_end" s_greatest_end g fd) : FnOk P w Cl.K mg base C8.CX0 7 g fd ["ends", "ranges", "total"] (spT 3 f_greatest_end) := by
  refine C8.fn0 F sc_greatest_end (fun vs H Q E h => spT_len h) (fun cdv A outer s H vs Q E hr h => ?_)
  have nd := sc_greatest_end.nd
  have hu := hu_of hr
  refine ⟨_, (pss_one (ps_ret (pe_callB (cr_max rfl) (by rfl) B.b_max (by decide +kernel) (pa_cons (pe_lc (own := [("row", 3)]) (g := (gName 3)) rfl nd (show PI _ _ _ (iList Cl.K _) from pi_list (pe_cN h_kw_amounts hr (by decide) (by rfl) (pa_cons (pv 0) (pa_cons (pv 1) pa_nil)) (pk_cons (pv 2) pk_nil))) (blkOk_by (N := _) (by rfl)) (fun _ _ _ _ _ => (pg_name (i := 3) nd rfl (by first | exact Or.inl rfl | exact Or.inr rfl))) (fun _ _ _ _ _ => pts_nil) (fun _ _ _ _ _ => (pe_callB (show CallR _ _ (rMax Cl.K) from (cr_max rfl)) (by rfl) B.b_max (by decide +kernel) (pa_cons (pv 3) pa_nil)))) pa_nil)))), ?_⟩
  exact run_fn (fun I d => (z_ret (s_cb bs_max (s_cons (SO.se (SOp'.so (o_lc (i_list (s_callN (s_cons s_var (s_cons s_var s_nil)) (s_cons s_var s_nil))) g_name (by decide) t_yes' (s_cb bs_max (s_cons s_var s_nil))))) s_nil)))) h

abbrev s_law_beside_right : Stmt := top 67
theorem sc_law_beside_right : FnScope ["days", "case", "bounds", "value", "behind"] ["days"] (C8.fnScope s_law_beside_right) := C8.fnScope_by (by decide +kernel)
def m_law_beside_right : MS := (mSeq (mPar 1 2 (mCons (mMake 1 f_Ends___init__ [] (mCons (mLst (mCons (mTup (mCons (mTup (mCons (mC (.str (Str.ofString "a"))) (mCons (mC (.int 1)) mNil))) mNil)) (mCons (mTup (mCons (mTup (mCons (mC (.str (Str.ofString "b"))) (mCons (mC (.int 1)) mNil))) mNil)) mNil))) mNil)) (mCons (mDisp [((mC (.str (Str.ofString "a"))), (mTup (mCons (mC (.int 0)) (mCons (mVar 0) mNil)))), ((mC (.str (Str.ofString "b"))), (mTup (mCons (mC (.int 0)) (mCons (mVar 0) mNil))))]) mNil)))
  (mSeq (mAsg (mIf (mTB (mOp oEq (mOp (oI (fun _ j => decide (0 < j)) fun i j => .int (i % j)) (mCB bInt1 (mCons (mVar 0) mNil)) (mC (.int 2))) (mC (.int 1)))) (mTup (mCons (mVar 0) (mCons (mC (.int 2)) mNil))) (mTup (mCons (mOp (oI (fun _ j => decide (0 < j) && decide (j.natAbs.log2 < 9000)) fun i j => .int (i / j)) (mCB bInt1 (mCons (mVar 0) mNil)) (mC (.int 2))) (mCons (mC (.int 1)) mNil)))) (mgN 3))
  (mSeq (mIfS (mOr (mTB (mOp oNeD (mCallN 2 1 f_least_end_in (mCons (mVar 1) (mCons (mVar 2) mNil)) (mCons (mVar 0) mNil)) (mVar 3))) (mOr (mTB (mOp oNe (mCallN 2 1 f_greatest_end (mCons (mVar 1) (mCons (mVar 2) mNil)) (mCons (mVar 0) mNil)) (mVar 0))) (mTB (mOp oNeD (mCall 3 f_least_end_in [.non] (mCons (mVar 1) (mCons (mVar 2) mNil))) (mTup (mCons (mC (.int 0)) (mCons (mC (.int 1)) mNil))))))) (mRet (mC (.bl false))) mNext)
  (mSeq (mIfS (mOr (mTB (mOp oNeW (mCallN 1 1 f_corners (mCons (mVar 2) mNil) (mCons (mVar 0) mNil)) (mLst (mCons (mDisp [((mC (.str (Str.ofString "a"))), (mC (.int 0))), ((mC (.str (Str.ofString "b"))), (mVar 0))]) (mCons (mDisp [((mC (.str (Str.ofString "a"))), (mVar 0)), ((mC (.str (Str.ofString "b"))), (mC (.int 0)))]) mNil))))) (mTB (mOp oNeD (mCallN 2 1 f_amounts (mCons (mVar 1) (mCons (mVar 2) mNil)) (mCons (mVar 0) mNil)) (mLst (mCons (mLst (mCons (mC (.int 0)) (mCons (mVar 0) mNil))) (mCons (mLst (mCons (mVar 0) (mCons (mC (.int 0)) mNil))) mNil)))))) (mRet (mC (.bl false))) mNext)
  (mSeq (mAsg (mMake 1 f_Ends___init__ [] (mCons (mLst (mCons (mTup (mCons (mTup (mCons (mC (.str (Str.ofString "a"))) (mCons (mC (.int 1)) mNil))) (mCons (mTup (mCons (mC (.str (Str.ofString "b"))) (mCons (mC (.int 1)) mNil))) mNil))) mNil)) mNil)) (mgN 4))
  (mRet (mAndV (mOp oEqD (mCallN 2 1 f_least_end_in (mCons (mVar 4) (mCons (mVar 2) mNil)) (mCons (mVar 0) mNil)) (mTup (mCons (mVar 0) (mCons (mC (.int 1)) mNil)))) (mOp oEq (mCall 3 f_greatest_end [.non] (mCons (mVar 4) (mCons (mVar 2) mNil))) (mOp (oI cMulB fun i j => .int (i * j)) (mC (.int 2)) (mVar 0))))))))))
def f_law_beside_right : Fn := fnM 5 m_law_beside_right
theorem c_law_beside_right (B : Bl mg) (h_mk_Ends_1 : C8.Mak P w Cl.K mg base 9 "Ends" (Cl.ad 6) (spI 6 1 f_Ends___init__) []) (h_ds_Ends_1 : ∀ (I : Tt) (F : Hp), RTs F [] []) (h_least_end_in : C8.Cal P w Cl.K mg base 7 "least_end_in" (spT 3 f_least_end_in) [.non]) (h_kw_greatest_end : CalN P w Cl.K mg base 7 "greatest_end" 2 ["total"] (spT (2 + 1) f_greatest_end)) (h_kw_least_end_in : CalN P w Cl.K mg base 7 "least_end_in" 2 ["total"] (spT (2 + 1) f_least_end_in)) (h_kw_amounts : CalN P w Cl.K mg base 6 "amounts" 2 ["total"] (spT (2 + 1) f_amounts)) (h_kw_corners : CalN P w Cl.K mg base 5 "corners" 1 ["total"] (spT (1 + 1) f_corners)) (h_greatest_end : C8.Cal P w Cl.K mg base 7 "greatest_end" (spT 3 f_greatest_end) [.non]) (D : DefX Cl.K mg "_law_beside_right" s_law_beside_right) : C8.Cal P w Cl.K mg base 11 "_law_beside_right" (spT 1 f_law_beside_right) [] := by
  refine cal_of D sc_law_beside_right (fun _ _ _ _ _ _ us hl => match us, hl with | [_], _ => rfl) (fun vs H Q E h => spT_len h) (fun f cdv A outer s H vs Q E hr h => ?_)
  have nd := sc_law_beside_right.nd
  have hu := hu_of hr
  refine ⟨_, (pss_cons (ps_par (i := 1) (j := 2) rfl nd rfl rfl (by decide) rfl rfl (pa_cons (C8.pe_mk h_mk_Ends_1 hr (by decide) (by rfl) (pa_cons (pe_lst (pa_cons (pe_tupB (pa_cons (pe_tupB (pa_cons pe_str (pa_cons pe_int pa_nil))) pa_nil)) (pa_cons (pe_tupB (pa_cons (pe_tupB (pa_cons pe_str (pa_cons pe_int pa_nil))) pa_nil)) pa_nil))) pa_nil)) (pa_cons (pe_disp (pps_cons pe_str (pe_tupB (pa_cons pe_int (pa_cons (pv 0) pa_nil))) (pps_cons pe_str (pe_tupB (pa_cons pe_int (pa_cons (pv 0) pa_nil))) pps_nil)) (by rfl) (by rfl) (fun z => by cases z) (by decide)) pa_nil)) rfl)
  (pss_cons (ps_set (i := 3) nd rfl (Or.inl rfl) (pe_ifExp (pt_cmpR op_eq (pe_op op_mod (pe_callTy call_int1' (by rfl) B.b_int (by decide +kernel) (pa_cons (pv 0) pa_nil)) pe_int) pe_int (nomark _)) (pe_tupB (pa_cons (pv 0) (pa_cons pe_int pa_nil))) (pe_tupB (pa_cons (pe_op op_fdivW (pe_callTy call_int1' (by rfl) B.b_int (by decide +kernel) (pa_cons (pv 0) pa_nil)) pe_int) (pa_cons pe_int pa_nil)))))
  (pss_cons (ps_if (PW.pt (pw_or (pt_cmpR (show OpR _ (compareOp .NotEq) (rNeD Cl.K) from op_neD (hu64 hr)) (pe_cN h_kw_least_end_in hr (by decide) (by rfl) (pa_cons (pv 1) (pa_cons (pv 2) pa_nil)) (pk_cons (pv 0) pk_nil)) (pv 3) (nomark _)) (pw_or (pt_cmpR op_ne (pe_cN h_kw_greatest_end hr (by decide) (by rfl) (pa_cons (pv 1) (pa_cons (pv 2) pa_nil)) (pk_cons (pv 0) pk_nil)) (pv 0) (nomark _)) (pw_or1 (pt_cmpR (show OpR _ (compareOp .NotEq) (rNeD Cl.K) from op_neD (hu64 hr)) (C8.pe_c h_least_end_in hr (by decide) (by rfl) (pa_cons (pv 1) (pa_cons (pv 2) pa_nil))) (pe_tupB (pa_cons pe_int (pa_cons pe_int pa_nil))) (nomark _)))))) (pss_one (ps_ret pe_bl)) pss_nil)
  (pss_cons (ps_if (PW.pt (pw_or (pt_cmpR (show OpR _ (compareOp .NotEq) (rNeW Cl.K) from op_neW (hu64 hr)) (pe_cN h_kw_corners hr (by decide) (by rfl) (pa_cons (pv 2) pa_nil) (pk_cons (pv 0) pk_nil)) (pe_lst (pa_cons (pe_disp (pps_cons pe_str pe_int (pps_cons pe_str (pv 0) pps_nil)) (by rfl) (by rfl) (fun z => by cases z) (by decide)) (pa_cons (pe_disp (pps_cons pe_str (pv 0) (pps_cons pe_str pe_int pps_nil)) (by rfl) (by rfl) (fun z => by cases z) (by decide)) pa_nil))) (nomark _)) (pw_or1 (pt_cmpR (show OpR _ (compareOp .NotEq) (rNeD Cl.K) from op_neD (hu64 hr)) (pe_cN h_kw_amounts hr (by decide) (by rfl) (pa_cons (pv 1) (pa_cons (pv 2) pa_nil)) (pk_cons (pv 0) pk_nil)) (pe_lst (pa_cons (pe_lst (pa_cons pe_int (pa_cons (pv 0) pa_nil))) (pa_cons (pe_lst (pa_cons (pv 0) (pa_cons pe_int pa_nil))) pa_nil))) (nomark _))))) (pss_one (ps_ret pe_bl)) pss_nil)
  (pss_cons (ps_set (i := 4) nd rfl (Or.inl rfl) (C8.pe_mk h_mk_Ends_1 hr (by decide) (by rfl) (pa_cons (pe_lst (pa_cons (pe_tupB (pa_cons (pe_tupB (pa_cons pe_str (pa_cons pe_int pa_nil))) (pa_cons (pe_tupB (pa_cons pe_str (pa_cons pe_int pa_nil))) pa_nil))) pa_nil)) pa_nil)))
  (pss_one (ps_ret (pe_and (pe_cmpR (show OpR _ (compareOp .Eq) (rEqD Cl.K) from op_eqD (hu64 hr)) (pe_cN h_kw_least_end_in hr (by decide) (by rfl) (pa_cons (pv 4) (pa_cons (pv 2) pa_nil)) (pk_cons (pv 0) pk_nil)) (pe_tupB (pa_cons (pv 0) (pa_cons pe_int pa_nil))) (nomark _)) (pe_one (pe_cmpR op_eq (C8.pe_c h_greatest_end hr (by decide) (by rfl) (pa_cons (pv 4) (pa_cons (pv 2) pa_nil))) (pe_op op_mulB pe_int (pv 0)) (nomark _))))))))))), ?_⟩
  exact run_fn (fun I d => (z_seq (z_par (s_cons (SO.se (o_make (h_ds_Ends_1 I) (s_cons (SO.se (o_lst (s_cons (s_tup (s_cons (s_tup (s_cons (s_C fun _ => .str _) (s_cons (s_C fun _ => .int _) s_nil))) s_nil)) (s_cons (s_tup (s_cons (s_tup (s_cons (s_C fun _ => .str _) (s_cons (s_C fun _ => .int _) s_nil))) s_nil)) s_nil)))) s_nil))) (s_cons (SO.se (o_disp (.cons (s_C fun _ => .str _) (s_tup (s_cons (s_C fun _ => .int _) (s_cons s_var s_nil))) (.cons (s_C fun _ => .str _) (s_tup (s_cons (s_C fun _ => .int _) (s_cons s_var s_nil))) .nil)))) s_nil)) (.inl rfl))
  (z_seq (z_asg (s_if (t_b (s_op os_eq (s_op os_mod (s_cb bs_int1 (s_cons s_var s_nil)) (s_C fun _ => .int _)) (s_C fun _ => .int _))) (s_tup (s_cons s_var (s_cons (s_C fun _ => .int _) s_nil))) (s_tup (s_cons (s_op os_fdiv (s_cb bs_int1 (s_cons s_var s_nil)) (s_C fun _ => .int _)) (s_cons (s_C fun _ => .int _) s_nil)))) g_name (.inl rfl))
  (z_seq (z_if (t_or (t_b (s_op os_neD (s_callN (s_cons s_var (s_cons s_var s_nil)) (s_cons s_var s_nil)) s_var)) (t_or (t_b (s_op os_ne (s_callN (s_cons s_var (s_cons s_var s_nil)) (s_cons s_var s_nil)) s_var)) (t_b (s_op os_neD (s_call (fun _ => (.cons .non .nil)) (s_cons s_var (s_cons s_var s_nil))) (s_tup (s_cons (s_C fun _ => .int _) (s_cons (s_C fun _ => .int _) s_nil))))))) (z_ret (s_C fun _ => .bl _)) z_next)
  (z_seq (z_if (t_or (t_b (s_op os_neW (s_callN (s_cons s_var s_nil) (s_cons s_var s_nil)) (SO.se (o_lst (s_cons (SO.se (o_disp (.cons (s_C fun _ => .str _) (s_C fun _ => .int _) (.cons (s_C fun _ => .str _) s_var .nil)))) (s_cons (SO.se (o_disp (.cons (s_C fun _ => .str _) s_var (.cons (s_C fun _ => .str _) (s_C fun _ => .int _) .nil)))) s_nil)))))) (t_b (s_op os_neD (s_callN (s_cons s_var (s_cons s_var s_nil)) (s_cons s_var s_nil)) (SO.se (o_lst (s_cons (SO.se (o_lst (s_cons (s_C fun _ => .int _) (s_cons s_var s_nil)))) (s_cons (SO.se (o_lst (s_cons s_var (s_cons (s_C fun _ => .int _) s_nil)))) s_nil))))))) (z_ret (s_C fun _ => .bl _)) z_next)
  (z_seq (z_asg (SO.se (o_make (h_ds_Ends_1 I) (s_cons (SO.se (o_lst (s_cons (s_tup (s_cons (s_tup (s_cons (s_C fun _ => .str _) (s_cons (s_C fun _ => .int _) s_nil))) (s_cons (s_tup (s_cons (s_C fun _ => .str _) (s_cons (s_C fun _ => .int _) s_nil))) s_nil))) s_nil))) s_nil))) g_name (.inl rfl))
  (z_ret (s_andV (s_op os_eqD (s_callN (s_cons s_var (s_cons s_var s_nil)) (s_cons s_var s_nil)) (s_tup (s_cons s_var (s_cons (s_C fun _ => .int _) s_nil)))) (s_op os_eq (s_call (fun _ => (.cons .non .nil)) (s_cons s_var (s_cons s_var s_nil))) (s_op os_mulB (s_C fun _ => .int _) s_var)))))))))) h

def g_law_beside_right : Fn := fun ts k => match ts with
  | [.int a] => decide (1 ≤ a) && (decide (a < 31) && k (.bl true))
  | _ => false
theorem mn_law_beside_right_1 : f_law_beside_right [.int 1] isYes = true := by decide +kernel
theorem mn_law_beside_right_2 : f_law_beside_right [.int 2] isYes = true := by decide +kernel
theorem mn_law_beside_right_3 : f_law_beside_right [.int 3] isYes = true := by decide +kernel
theorem mn_law_beside_right_4 : f_law_beside_right [.int 4] isYes = true := by decide +kernel
theorem mn_law_beside_right_5 : f_law_beside_right [.int 5] isYes = true := by decide +kernel
theorem mn_law_beside_right_6 : f_law_beside_right [.int 6] isYes = true := by decide +kernel
theorem mn_law_beside_right_7 : f_law_beside_right [.int 7] isYes = true := by decide +kernel
theorem mn_law_beside_right_8 : f_law_beside_right [.int 8] isYes = true := by decide +kernel
theorem mn_law_beside_right_9 : f_law_beside_right [.int 9] isYes = true := by decide +kernel
theorem mn_law_beside_right_10 : f_law_beside_right [.int 10] isYes = true := by decide +kernel
theorem mn_law_beside_right_11 : f_law_beside_right [.int 11] isYes = true := by decide +kernel
theorem mn_law_beside_right_12 : f_law_beside_right [.int 12] isYes = true := by decide +kernel
theorem mn_law_beside_right_13 : f_law_beside_right [.int 13] isYes = true := by decide +kernel
theorem mn_law_beside_right_14 : f_law_beside_right [.int 14] isYes = true := by decide +kernel
theorem mn_law_beside_right_15 : f_law_beside_right [.int 15] isYes = true := by decide +kernel
theorem mn_law_beside_right_16 : f_law_beside_right [.int 16] isYes = true := by decide +kernel
theorem mn_law_beside_right_17 : f_law_beside_right [.int 17] isYes = true := by decide +kernel
theorem mn_law_beside_right_18 : f_law_beside_right [.int 18] isYes = true := by decide +kernel
theorem mn_law_beside_right_19 : f_law_beside_right [.int 19] isYes = true := by decide +kernel
theorem mn_law_beside_right_20 : f_law_beside_right [.int 20] isYes = true := by decide +kernel
theorem mn_law_beside_right_21 : f_law_beside_right [.int 21] isYes = true := by decide +kernel
theorem mn_law_beside_right_22 : f_law_beside_right [.int 22] isYes = true := by decide +kernel
theorem mn_law_beside_right_23 : f_law_beside_right [.int 23] isYes = true := by decide +kernel
theorem mn_law_beside_right_24 : f_law_beside_right [.int 24] isYes = true := by decide +kernel
theorem mn_law_beside_right_25 : f_law_beside_right [.int 25] isYes = true := by decide +kernel
theorem mn_law_beside_right_26 : f_law_beside_right [.int 26] isYes = true := by decide +kernel
theorem mn_law_beside_right_27 : f_law_beside_right [.int 27] isYes = true := by decide +kernel
theorem mn_law_beside_right_28 : f_law_beside_right [.int 28] isYes = true := by decide +kernel
theorem mn_law_beside_right_29 : f_law_beside_right [.int 29] isYes = true := by decide +kernel
theorem mn_law_beside_right_30 : f_law_beside_right [.int 30] isYes = true := by decide +kernel
theorem any_law_beside_right {a : Int} (h1 : 1 ≤ a) (h2 : a < 31) : f_law_beside_right [.int a] isYes = true := by
  rcases (by omega : a = 1 ∨ a = 2 ∨ a = 3 ∨ a = 4 ∨ a = 5 ∨ a = 6 ∨ a = 7 ∨ a = 8 ∨ a = 9 ∨ a = 10 ∨ a = 11 ∨ a = 12 ∨ a = 13 ∨ a = 14 ∨ a = 15 ∨ a = 16 ∨ a = 17 ∨ a = 18 ∨ a = 19 ∨ a = 20 ∨ a = 21 ∨ a = 22 ∨ a = 23 ∨ a = 24 ∨ a = 25 ∨ a = 26 ∨ a = 27 ∨ a = 28 ∨ a = 29 ∨ a = 30) with e | e | e | e | e | e | e | e | e | e | e | e | e | e | e | e | e | e | e | e | e | e | e | e | e | e | e | e | e | e <;> subst e
  · exact mn_law_beside_right_1
  · exact mn_law_beside_right_2
  · exact mn_law_beside_right_3
  · exact mn_law_beside_right_4
  · exact mn_law_beside_right_5
  · exact mn_law_beside_right_6
  · exact mn_law_beside_right_7
  · exact mn_law_beside_right_8
  · exact mn_law_beside_right_9
  · exact mn_law_beside_right_10
  · exact mn_law_beside_right_11
  · exact mn_law_beside_right_12
  · exact mn_law_beside_right_13
  · exact mn_law_beside_right_14
  · exact mn_law_beside_right_15
  · exact mn_law_beside_right_16
  · exact mn_law_beside_right_17
  · exact mn_law_beside_right_18
  · exact mn_law_beside_right_19
  · exact mn_law_beside_right_20
  · exact mn_law_beside_right_21
  · exact mn_law_beside_right_22
  · exact mn_law_beside_right_23
  · exact mn_law_beside_right_24
  · exact mn_law_beside_right_25
  · exact mn_law_beside_right_26
  · exact mn_law_beside_right_27
  · exact mn_law_beside_right_28
  · exact mn_law_beside_right_29
  · exact mn_law_beside_right_30
theorem ref_law_beside_right : Ref f_law_beside_right g_law_beside_right := by
  intro ts k h
  unfold g_law_beside_right at h
  split at h
  · rename_i a
    simp only [Bool.and_eq_true, decide_eq_true_eq] at h
    exact ⟨isYes, any_law_beside_right h.1 h.2.1, fun t ht => by rw [isYes_eq ht]; exact h.2.2⟩
  · cases h



abbrev s_law : Stmt := top 69
theorem sc_law : FnScope ["script", "start", "tape", "half", "wholes"] ["script"] (C8.fnScope s_law) := C8.fnScope_by (by decide +kernel)

def m_law_b : MS := (mIfS (mOr (mNot (mTB (mCall 1 g_law_beside_right [] (mCons (mOp (oI0 fun i j => .int (i + j)) (mC (.int 1)) (mPick (mCons (mVar 2) (mCons (mC (.int 30)) mNil)))) mNil)))) (mNot (mTB (mCall 2 g_law_fixed_right [] (mCons (mPick (mCons (mVar 2) (mCons (mC (.int 12)) mNil))) (mCons (mPick (mCons (mVar 2) (mCons (mC (.int 5)) mNil))) mNil)))))) (mRet (mC (.bl false))) mNext)
def m_law_r : MS := (mSeq (mPar 3 4 (mCons (mMake 1 f_Ends___init__ [] (mCons (mLst (mCons (mTup (mCons (mTup (mCons (mC (.str (Str.ofString "a"))) (mCons (mC (.int 1)) mNil))) (mCons (mTup (mCons (mC (.str (Str.ofString "b"))) (mCons (mC (.int 1)) mNil))) mNil))) mNil)) mNil)) (mCons (mMake 1 f_Ends___init__ [] (mCons (mLst (mCons (mTup (mCons (mTup (mCons (mC (.str (Str.ofString "a"))) (mCons (mC (.int 2)) mNil))) mNil)) (mCons (mTup (mCons (mTup (mCons (mC (.str (Str.ofString "b"))) (mCons (mC (.int 2)) mNil))) mNil)) mNil))) mNil)) mNil)))
  (mRet (mAndV (mOp (oNone false) (mCall 4 f_paper_in [.non] (mCons (mVar 4) (mCons (mVar 3) (mCons (mDisp [((mC (.str (Str.ofString "a"))), (mTup (mCons (mC (.int 2)) (mCons (mC (.int 2)) mNil)))), ((mC (.str (Str.ofString "b"))), (mTup (mCons (mC (.int 2)) (mCons (mC (.int 2)) mNil))))]) mNil)))) (mC .non)) (mOp (oNone true) (mCall 4 f_paper_in [.non] (mCons (mVar 4) (mCons (mVar 3) (mCons (mDisp [((mC (.str (Str.ofString "a"))), (mTup (mCons (mC (.int 1)) (mCons (mC (.int 2)) mNil)))), ((mC (.str (Str.ofString "b"))), (mTup (mCons (mC (.int 2)) (mCons (mC (.int 2)) mNil))))]) mNil)))) (mC .non)))))


theorem e_law_b0 : m_law_b (sLoop 5 0) (kLoop 5) = true := by decide +kernel
theorem e_law_b1 : m_law_b (sLoop 5 1) (kLoop 5) = true := by decide +kernel
theorem e_law_b2 : m_law_b (sLoop 5 2) (kLoop 5) = true := by decide +kernel
theorem e_law_b : ∀ i, i < 3 → m_law_b (sLoop 5 i) (kLoop 5) = true := by
  intro i hi
  rcases (by omega : i = 0 ∨ i = 1 ∨ i = 2) with e | e | e <;> subst e
  · exact e_law_b0
  · exact e_law_b1
  · exact e_law_b2
theorem e_law_r : m_law_r (sEnd 5) kEnd = true := by decide +kernel

theorem ok_law (B : Bl mg) (h_law_tape : C8.Cal P w Cl.K mg base 1 "_law_tape" (spTape Cl.K) []) (h_law_pick : C8.Cal P w Cl.K mg base 1 "_law_pick" spPick []) (h_law_fixed_right : C8.Cal P w Cl.K mg base 11 "_law_fixed_right" (spT 2 g_law_fixed_right) []) (h_law_beside_right : C8.Cal P w Cl.K mg base 11 "_law_beside_right" (spT 1 g_law_beside_right) []) (h_mk_Ends_1 : C8.Mak P w Cl.K mg base 9 "Ends" (Cl.ad 6) (spI 6 1 f_Ends___init__) []) (h_ds_Ends_1 : ∀ (I : Tt) (F : Hp), RTs F [] []) (h_paper_in : C8.Cal P w Cl.K mg base 7 "paper_in" (spT 4 f_paper_in) [.non]) {fa : Addr} {fd : FuncData} (F : C8.Fun Cl.K "law" "law" s_law fa fd) (eb : ∀ i, i < 3 → m_law_b (sLoop 5 i) (kLoop 5) = true) (er : m_law_r (sEnd 5) kEnd = true) :
    FnOk P w Cl.K mg base C8.CX0 13 fa fd ["script"] (spLawT Cl.K Cl.tb) := by
  refine C8.fn0 F sc_law (fun vs H Q E h => ?_) (fun cdv A outer sh H vs Q E hr h => ?_)
  · obtain ⟨a, ns, rfl, _⟩ := h
    rfl
  · obtain ⟨a, ns, rfl, hS, bits, hT, q⟩ := h
    have nd := sc_law.nd
    have hu := hu_of hr
    refine ⟨_, (pss_cons (ps_for PassesOwn.never rfl (pi_range1 (by rfl) B.b_range (pa_cons (pe_callB (call_max2' rfl) (by rfl) B.b_max (by decide +kernel) (pa_cons pe_int (pa_cons (pe_callB (call_min2' rfl) (by rfl) B.b_min (by decide +kernel) (pa_cons pe_int (pa_cons (pe_callB call_len_seq' (by rfl) B.b_len (by decide +kernel) (pa_cons (pv 0) pa_nil)) pa_nil))) pa_nil))) pa_nil)) (pg_name (i := 1) nd rfl (by first | exact Or.inl rfl | exact Or.inr rfl))
  (pss_cons (ps_set (i := 2) nd rfl (Or.inl rfl) (C8.pe_c h_law_tape hr (by decide) (by rfl) (pa_cons (pv 0) (pa_cons (pv 1) pa_nil))))
  (pss_one (ps_if (PW.pt (pw_or (pt_not (pt_val (C8.pe_c h_law_beside_right hr (by decide) (by rfl) (pa_cons (pe_op op_add pe_int (C8.pe_c h_law_pick hr (by decide) (by rfl) (pa_cons (pv 2) (pa_cons pe_int pa_nil)))) pa_nil)))) (pw_or1 (pt_not (pt_val (C8.pe_c h_law_fixed_right hr (by decide) (by rfl) (pa_cons (C8.pe_c h_law_pick hr (by decide) (by rfl) (pa_cons (pv 2) (pa_cons pe_int pa_nil))) (pa_cons (C8.pe_c h_law_pick hr (by decide) (by rfl) (pa_cons (pv 2) (pa_cons pe_int pa_nil))) pa_nil)))))))) (pss_one (ps_ret pe_bl)) pss_nil))))
  (pss_cons (ps_par (i := 3) (j := 4) rfl nd rfl rfl (by decide) rfl rfl (pa_cons (C8.pe_mk h_mk_Ends_1 hr (by decide) (by rfl) (pa_cons (pe_lst (pa_cons (pe_tupB (pa_cons (pe_tupB (pa_cons pe_str (pa_cons pe_int pa_nil))) (pa_cons (pe_tupB (pa_cons pe_str (pa_cons pe_int pa_nil))) pa_nil))) pa_nil)) pa_nil)) (pa_cons (C8.pe_mk h_mk_Ends_1 hr (by decide) (by rfl) (pa_cons (pe_lst (pa_cons (pe_tupB (pa_cons (pe_tupB (pa_cons pe_str (pa_cons pe_int pa_nil))) pa_nil)) (pa_cons (pe_tupB (pa_cons (pe_tupB (pa_cons pe_str (pa_cons pe_int pa_nil))) pa_nil)) pa_nil))) pa_nil)) pa_nil)) rfl)
  (pss_one (ps_ret (pe_and (pe_cmpR op_notNil (C8.pe_c h_paper_in hr (by decide) (by rfl) (pa_cons (pv 4) (pa_cons (pv 3) (pa_cons (pe_disp (pps_cons pe_str (pe_tupB (pa_cons pe_int (pa_cons pe_int pa_nil))) (pps_cons pe_str (pe_tupB (pa_cons pe_int (pa_cons pe_int pa_nil))) pps_nil)) (by rfl) (by rfl) (fun z => by cases z) (by decide)) pa_nil)))) pe_non (nomark _)) (pe_one (pe_cmpR op_isNil (C8.pe_c h_paper_in hr (by decide) (by rfl) (pa_cons (pv 4) (pa_cons (pv 3) (pa_cons (pe_disp (pps_cons pe_str (pe_tupB (pa_cons pe_int (pa_cons pe_int pa_nil))) (pps_cons pe_str (pe_tupB (pa_cons pe_int (pa_cons pe_int pa_nil))) pps_nil)) (by rfl) (by rfl) (fun z => by cases z) (by decide)) pa_nil)))) pe_non (nomark _)))))))), ?_⟩
    exact law_frame (n := 5) hT (fun I d => (z_if (t_or (t_not (t_b (s_call (fun _ => .nil) (s_cons (s_op os_add (s_C fun _ => .int _) (s_pick (s_cons s_var (s_cons (s_C fun _ => .int _) s_nil)))) s_nil)))) (t_not (t_b (s_call (fun _ => .nil) (s_cons (s_pick (s_cons s_var (s_cons (s_C fun _ => .int _) s_nil))) (s_cons (s_pick (s_cons s_var (s_cons (s_C fun _ => .int _) s_nil))) s_nil)))))) (z_ret (s_C fun _ => .bl _)) z_next)) (fun I d => (z_seq (z_par (s_cons (SO.se (o_make (h_ds_Ends_1 I) (s_cons (SO.se (o_lst (s_cons (s_tup (s_cons (s_tup (s_cons (s_C fun _ => .str _) (s_cons (s_C fun _ => .int _) s_nil))) (s_cons (s_tup (s_cons (s_C fun _ => .str _) (s_cons (s_C fun _ => .int _) s_nil))) s_nil))) s_nil))) s_nil))) (s_cons (SO.se (o_make (h_ds_Ends_1 I) (s_cons (SO.se (o_lst (s_cons (s_tup (s_cons (s_tup (s_cons (s_C fun _ => .str _) (s_cons (s_C fun _ => .int _) s_nil))) s_nil)) (s_cons (s_tup (s_cons (s_tup (s_cons (s_C fun _ => .str _) (s_cons (s_C fun _ => .int _) s_nil))) s_nil)) s_nil)))) s_nil))) s_nil)) (.inr ⟨by decide, by decide⟩))
  (z_ret (s_andV (s_op os_notN (s_call (fun _ => (.cons .non .nil)) (s_cons s_var (s_cons s_var (s_cons (SO.se (o_disp (.cons (s_C fun _ => .str _) (s_tup (s_cons (s_C fun _ => .int _) (s_cons (s_C fun _ => .int _) s_nil))) (.cons (s_C fun _ => .str _) (s_tup (s_cons (s_C fun _ => .int _) (s_cons (s_C fun _ => .int _) s_nil))) .nil)))) s_nil)))) (s_C fun _ => .non)) (s_op os_isN (s_call (fun _ => (.cons .non .nil)) (s_cons s_var (s_cons s_var (s_cons (SO.se (o_disp (.cons (s_C fun _ => .str _) (s_tup (s_cons (s_C fun _ => .int _) (s_cons (s_C fun _ => .int _) s_nil))) (.cons (s_C fun _ => .str _) (s_tup (s_cons (s_C fun _ => .int _) (s_cons (s_C fun _ => .int _) s_nil))) .nil)))) s_nil)))) (s_C fun _ => .non)))))) eb er (by decide) rfl rfl hS bits q

theorem all_law (B : Bl mg) (h_b_gcd : mg "gcd" = some (.builtin "math.gcd")) (h_cl_Ends : Cls Cl.K (Cl.ad 6)) (mg_Ends : mg "Ends" = some (.ref (Cl.ad 6))) (h_na_Ends__chains : NoAttr Cl.K (Cl.ad 6) (Str.ofString "_chains")) (i_Ends : IniN Cl.K (Cl.ad 6) "Ends.__init__" s_Ends___init__) (x_Ends_names : PrpX Cl.K (Cl.ad 6) "names" "Ends.names" s_Ends_names) (x_Ends_chains : PrpX Cl.K (Cl.ad 6) "chains" "Ends.chains" s_Ends_chains) (d_law_tape : DefX Cl.K mg "_law_tape" s_law_tape) (d_law_pick : DefX Cl.K mg "_law_pick" s_law_pick) (d_is_int : DefX Cl.K mg "is_int" s_is_int) (d_is_name : DefX Cl.K mg "is_name" s_is_name) (d_is_pair : DefX Cl.K mg "_is_pair" s_is_pair) (d_is_chain : DefX Cl.K mg "is_chain" s_is_chain) (d_are_chains : DefX Cl.K mg "_are_chains" s_are_chains) (d_parts_ahead : DefX Cl.K mg "_parts_ahead" s_parts_ahead) (d_all_parts_ahead : DefX Cl.K mg "_all_parts_ahead" s_all_parts_ahead) (d_spread : DefX Cl.K mg "_spread" s_spread) (d_weighed : DefX Cl.K mg "weighed" s_weighed) (d_is_row : DefX Cl.K mg "_is_row" s_is_row) (d_is_matrix : DefX Cl.K mg "is_matrix" s_is_matrix) (d_first_table : DefX Cl.K mg "_first_table" s_first_table) (d_gaining : DefX Cl.K mg "_gaining" s_gaining) (d_is_tighter : DefX Cl.K mg "_is_tighter" s_is_tighter) (d_tightest : DefX Cl.K mg "_tightest" s_tightest) (d_turned_line : DefX Cl.K mg "_turned_line" s_turned_line) (d_turned : DefX Cl.K mg "_turned" s_turned) (d_best_table : DefX Cl.K mg "_best_table" s_best_table) (d_lowest : DefX Cl.K mg "_lowest" s_lowest) (d_settled : DefX Cl.K mg "settled" s_settled) (d_weigh_up : DefX Cl.K mg "weigh_up" s_weigh_up) (d_mixture : DefX Cl.K mg "mixture" s_mixture) (d_unbeaten : DefX Cl.K mg "_unbeaten" s_unbeaten) (d_is_count : DefX Cl.K mg "is_count" s_is_count) (d_is_range : DefX Cl.K mg "_is_range" s_is_range) (d_is_ranges : DefX Cl.K mg "_is_ranges" s_is_ranges) (d_check_names : DefX Cl.K mg "_check_names" s_check_names) (d_outer_days : DefX Cl.K mg "_outer_days" s_outer_days) (d_corner_days : DefX Cl.K mg "_corner_days" s_corner_days) (d_corners : DefK Cl.K mg "corners" s_corners [("total", .non)]) (d_has_days : DefX Cl.K mg "has_days" s_has_days) (d_amount : DefX Cl.K mg "amount" s_amount) (d_columns : DefX Cl.K mg "_columns" s_columns) (d_columns_of_both : DefX Cl.K mg "_columns_of_both" s_columns_of_both) (d_gaps : DefX Cl.K mg "_gaps" s_gaps) (d_is_weights : DefX Cl.K mg "is_weights" s_is_weights) (d_weighs_up : DefX Cl.K mg "weighs_up" s_weighs_up) (d_is_paper_in : DefK Cl.K mg "is_paper_in" s_is_paper_in [("total", .non)]) (d_later_in : DefK Cl.K mg "later_in" s_later_in [("total", .non)]) (d_paper_in : DefK Cl.K mg "paper_in" s_paper_in [("total", .non)]) (d_greatest : DefX Cl.K mg "_greatest" s_greatest) (d_is_later_in : DefK Cl.K mg "is_later_in" s_is_later_in [("total", .non)]) (d_law_fixed_right : DefX Cl.K mg "_law_fixed_right" s_law_fixed_right) (d_amounts : DefK Cl.K mg "amounts" s_amounts [("total", .non)]) (d_least_end_in : DefK Cl.K mg "least_end_in" s_least_end_in [("total", .non)]) (d_greatest_end : DefK Cl.K mg "greatest_end" s_greatest_end [("total", .non)]) (d_law_beside_right : DefX Cl.K mg "_law_beside_right" s_law_beside_right) (h_tb_gaining : TabX Cl.K base mg Cl.tb "_gaining" "_gaining.<locals>.<lambda>") {fa : Addr} {fd : FuncData} (F : C8.Fun Cl.K "law" "law" s_law fa fd) : FnOk P w Cl.K mg base C8.CX0 13 fa fd ["script"] (spLawT Cl.K Cl.tb) := by
  have h_v_Ends : ∃ u, mg "Ends" = some u ∧ RelV (.ref (Cl.ad 6)) u := ⟨_, mg_Ends, rfl⟩
  have h_law_tape := c_law_tape (P := P) (w := w) (base := base) d_law_tape B
  have h_law_pick := c_law_pick (P := P) (w := w) (base := base) d_law_pick B
  have h_is_int := c_is_int (P := P) (w := w) (base := base) B  d_is_int
  have h_is_name := c_is_name (P := P) (w := w) (base := base) B  d_is_name
  have h_is_pair := c_is_pair (P := P) (w := w) (base := base) B h_is_int h_is_name d_is_pair
  have h_is_chain := c_is_chain (P := P) (w := w) (base := base) B h_is_pair d_is_chain
  have h_are_chains := c_are_chains (P := P) (w := w) (base := base) B h_is_chain d_are_chains
  have h_parts_ahead := c_parts_ahead (P := P) (w := w) (base := base) B  d_parts_ahead
  have h_all_parts_ahead := c_all_parts_ahead (P := P) (w := w) (base := base) B h_parts_ahead d_all_parts_ahead
  have h_spread := c_spread (P := P) (w := w) (base := base) B  d_spread
  have h_weighed := c_weighed (P := P) (w := w) (base := base) B  d_weighed
  have h_is_row := c_is_row (P := P) (w := w) (base := base) B h_is_int d_is_row
  have h_is_matrix := c_is_matrix (P := P) (w := w) (base := base) B h_is_row d_is_matrix
  have h_first_table := c_first_table (P := P) (w := w) (base := base) B  d_first_table
  have h_gaining := c_gaining (P := P) (w := w) (base := base) B h_tb_gaining d_gaining
  have h_is_tighter := c_is_tighter (P := P) (w := w) (base := base) B  d_is_tighter
  have h_tightest := c_tightest (P := P) (w := w) (base := base) B h_is_tighter d_tightest
  have h_turned_line := c_turned_line (P := P) (w := w) (base := base) B  d_turned_line
  have h_turned := c_turned (P := P) (w := w) (base := base) B h_turned_line d_turned
  have h_best_table := c_best_table (P := P) (w := w) (base := base) B h_gaining h_tightest h_turned d_best_table
  have h_lowest := c_lowest (P := P) (w := w) (base := base) B h_b_gcd d_lowest
  have h_settled := c_settled (P := P) (w := w) (base := base) B h_is_matrix h_first_table h_best_table h_lowest d_settled
  have h_weigh_up := c_weigh_up (P := P) (w := w) (base := base) B h_spread h_weighed h_settled d_weigh_up
  have h_mixture := c_mixture (P := P) (w := w) (base := base) B h_all_parts_ahead h_weigh_up d_mixture
  have h_unbeaten := c_unbeaten (P := P) (w := w) (base := base) B h_mixture d_unbeaten
  obtain ⟨fi_Ends, fdi_Ends, mki_Ends, fni_Ends, fu_Ends, fe_Ends⟩ := i_Ends.ex
  have oki_Ends := ok_Ends___init__ (P := P) (w := w) (base := base) B h_are_chains h_unbeaten h_cl_Ends h_na_Ends__chains fni_Ends
  have h_mk_Ends_1 : C8.Mak P w Cl.K mg base 9 "Ends" (Cl.ad 6) (spI 6 1 f_Ends___init__) [] := ⟨fi_Ends, fdi_Ends, _, [], mki_Ends, oki_Ends, mg_Ends, fu_Ends.binds fe_Ends fun _ _ _ _ _ _ us hl => match us, hl with | [_, _], _ => rfl, .nil⟩
  have h_ds_Ends_1 : ∀ (I : Tt) (F : Hp), RTs F [] [] := fun I F => .nil
  obtain ⟨p_Ends_names, g_Ends_names, fd_Ends_names, a_Ends_names, b_Ends_names, c_Ends_names⟩ := x_Ends_names.ex
  have h_p_Ends_names : PrpOk P w Cl.K mg base 1 (Cl.ad 6) "names" (spT 1 f_Ends_names) := ⟨p_Ends_names, g_Ends_names, fd_Ends_names, ["self"], h_cl_Ends, a_Ends_names, ok_Ends_names B h_cl_Ends h_na_Ends__chains b_Ends_names, b_Ends_names.binds c_Ends_names fun _ _ _ _ _ _ us hl => match us, hl with | [_], _ => rfl⟩
  have h_is_count := c_is_count (P := P) (w := w) (base := base) B h_is_int d_is_count
  have h_is_range := c_is_range (P := P) (w := w) (base := base) B h_is_count d_is_range
  have h_is_ranges := c_is_ranges (P := P) (w := w) (base := base) B h_is_range h_is_name d_is_ranges
  have h_check_names := c_check_names (P := P) (w := w) (base := base) B h_is_ranges d_check_names
  have h_outer_days := c_outer_days (P := P) (w := w) (base := base) B  d_outer_days
  have h_corner_days := c_corner_days (P := P) (w := w) (base := base) B h_outer_days d_corner_days
  obtain ⟨fa_corners, fd_corners, fu_corners, fk_corners, mg_corners, kp_corners⟩ := d_corners.ex
  have okd_corners := ok_corners (P := P) (w := w) (base := base) B h_is_ranges h_corner_days fu_corners
  obtain ⟨ds_corners, dv_corners, db_corners⟩ : ∃ ds, Vals [V.non] ds ∧ Binds Cl.K fd_corners ["ranges", "total"] ds := fk_corners.binds0 (ps := ["ranges", "total"]) 1 (by simp) rfl fun D doc pm an cdv ct us ks hl hk => match us, ks, hl, hk with | [_], [_], _, _ => ⟨_, _, _, _, _, _, rfl, rfl, rfl⟩
  have h_corners : C8.Cal P w Cl.K mg base 5 "corners" (spT 2 f_corners) [.non] := ⟨fa_corners, fd_corners, _, ds_corners, okd_corners, mg_corners, kp_corners, db_corners, dv_corners⟩
  have h_kw_corners : CalN P w Cl.K mg base 5 "corners" 1 ["total"] (spT (1 + 1) f_corners) := by
    obtain ⟨mv, kb⟩ := fk_corners.kbinds0 (ps := ["ranges", "total"]) 1 ["total"] [] (fun us _ ws => us ++ ws) (by simp) (fun q h => nomatch h) (fun r1 _ r3 => r1.append r3)
      (fun D doc pm an cdv ct us mv ws h1 h2 h3 => match us, mv, ws, h1, h2, h3 with | [_], [], [_], _, _, _ => rfl)
    exact ⟨fa_corners, fd_corners, _, _, okd_corners, mg_corners, kp_corners, kb⟩
  obtain ⟨p_Ends_chains, g_Ends_chains, fd_Ends_chains, a_Ends_chains, b_Ends_chains, c_Ends_chains⟩ := x_Ends_chains.ex
  have h_p_Ends_chains : PrpOk P w Cl.K mg base 1 (Cl.ad 6) "chains" (spT 1 f_Ends_chains) := ⟨p_Ends_chains, g_Ends_chains, fd_Ends_chains, ["self"], h_cl_Ends, a_Ends_chains, ok_Ends_chains B h_cl_Ends h_na_Ends__chains b_Ends_chains, b_Ends_chains.binds c_Ends_chains fun _ _ _ _ _ _ us hl => match us, hl with | [_], _ => rfl⟩
  have h_has_days := c_has_days (P := P) (w := w) (base := base) B h_is_count h_is_name d_has_days
  have h_amount := c_amount (P := P) (w := w) (base := base) B h_has_days d_amount
  have h_columns := c_columns (P := P) (w := w) (base := base) B h_amount d_columns
  have h_columns_of_both := c_columns_of_both (P := P) (w := w) (base := base) B h_p_Ends_names h_check_names h_kw_corners h_p_Ends_chains h_columns d_columns_of_both
  have h_gaps := c_gaps (P := P) (w := w) (base := base) B  d_gaps
  have h_is_weights := c_is_weights (P := P) (w := w) (base := base) B h_is_count d_is_weights
  have h_weighs_up := c_weighs_up (P := P) (w := w) (base := base) B h_weighed h_is_weights d_weighs_up
  obtain ⟨fa_is_paper_in, fd_is_paper_in, fu_is_paper_in, fk_is_paper_in, mg_is_paper_in, kp_is_paper_in⟩ := d_is_paper_in.ex
  have okd_is_paper_in := ok_is_paper_in (P := P) (w := w) (base := base) B h_columns_of_both h_gaps h_weighs_up fu_is_paper_in
  obtain ⟨ds_is_paper_in, dv_is_paper_in, db_is_paper_in⟩ : ∃ ds, Vals [V.non] ds ∧ Binds Cl.K fd_is_paper_in ["one", "other", "ranges", "value", "total"] ds := fk_is_paper_in.binds0 (ps := ["one", "other", "ranges", "value", "total"]) 4 (by simp) rfl fun D doc pm an cdv ct us ks hl hk => match us, ks, hl, hk with | [_, _, _, _], [_], _, _ => ⟨_, _, _, _, _, _, rfl, rfl, rfl⟩
  have h_is_paper_in : C8.Cal P w Cl.K mg base 7 "is_paper_in" (spT 5 f_is_paper_in) [.non] := ⟨fa_is_paper_in, fd_is_paper_in, _, ds_is_paper_in, okd_is_paper_in, mg_is_paper_in, kp_is_paper_in, db_is_paper_in, dv_is_paper_in⟩
  have h_kw_is_paper_in : CalN P w Cl.K mg base 7 "is_paper_in" 4 ["total"] (spT (4 + 1) f_is_paper_in) := by
    obtain ⟨mv, kb⟩ := fk_is_paper_in.kbinds0 (ps := ["one", "other", "ranges", "value", "total"]) 4 ["total"] [] (fun us _ ws => us ++ ws) (by simp) (fun q h => nomatch h) (fun r1 _ r3 => r1.append r3)
      (fun D doc pm an cdv ct us mv ws h1 h2 h3 => match us, mv, ws, h1, h2, h3 with | [_, _, _, _], [], [_], _, _, _ => rfl)
    exact ⟨fa_is_paper_in, fd_is_paper_in, _, _, okd_is_paper_in, mg_is_paper_in, kp_is_paper_in, kb⟩
  obtain ⟨fa_later_in, fd_later_in, fu_later_in, fk_later_in, mg_later_in, kp_later_in⟩ := d_later_in.ex
  have okd_later_in := ok_later_in (P := P) (w := w) (base := base) B h_columns_of_both h_gaps h_weigh_up fu_later_in
  obtain ⟨ds_later_in, dv_later_in, db_later_in⟩ : ∃ ds, Vals [V.non] ds ∧ Binds Cl.K fd_later_in ["one", "other", "ranges", "total"] ds := fk_later_in.binds0 (ps := ["one", "other", "ranges", "total"]) 3 (by simp) rfl fun D doc pm an cdv ct us ks hl hk => match us, ks, hl, hk with | [_, _, _], [_], _, _ => ⟨_, _, _, _, _, _, rfl, rfl, rfl⟩
  have h_later_in : C8.Cal P w Cl.K mg base 7 "later_in" (spT 4 f_later_in) [.non] := ⟨fa_later_in, fd_later_in, _, ds_later_in, okd_later_in, mg_later_in, kp_later_in, db_later_in, dv_later_in⟩
  have h_kw_later_in : CalN P w Cl.K mg base 7 "later_in" 3 ["total"] (spT (3 + 1) f_later_in) := by
    obtain ⟨mv, kb⟩ := fk_later_in.kbinds0 (ps := ["one", "other", "ranges", "total"]) 3 ["total"] [] (fun us _ ws => us ++ ws) (by simp) (fun q h => nomatch h) (fun r1 _ r3 => r1.append r3)
      (fun D doc pm an cdv ct us mv ws h1 h2 h3 => match us, mv, ws, h1, h2, h3 with | [_, _, _], [], [_], _, _, _ => rfl)
    exact ⟨fa_later_in, fd_later_in, _, _, okd_later_in, mg_later_in, kp_later_in, kb⟩
  obtain ⟨fa_paper_in, fd_paper_in, fu_paper_in, fk_paper_in, mg_paper_in, kp_paper_in⟩ := d_paper_in.ex
  have okd_paper_in := ok_paper_in (P := P) (w := w) (base := base) B h_columns_of_both h_gaps h_weigh_up fu_paper_in
  obtain ⟨ds_paper_in, dv_paper_in, db_paper_in⟩ : ∃ ds, Vals [V.non] ds ∧ Binds Cl.K fd_paper_in ["one", "other", "ranges", "total"] ds := fk_paper_in.binds0 (ps := ["one", "other", "ranges", "total"]) 3 (by simp) rfl fun D doc pm an cdv ct us ks hl hk => match us, ks, hl, hk with | [_, _, _], [_], _, _ => ⟨_, _, _, _, _, _, rfl, rfl, rfl⟩
  have h_paper_in : C8.Cal P w Cl.K mg base 7 "paper_in" (spT 4 f_paper_in) [.non] := ⟨fa_paper_in, fd_paper_in, _, ds_paper_in, okd_paper_in, mg_paper_in, kp_paper_in, db_paper_in, dv_paper_in⟩
  have h_kw_paper_in : CalN P w Cl.K mg base 7 "paper_in" 3 ["total"] (spT (3 + 1) f_paper_in) := by
    obtain ⟨mv, kb⟩ := fk_paper_in.kbinds0 (ps := ["one", "other", "ranges", "total"]) 3 ["total"] [] (fun us _ ws => us ++ ws) (by simp) (fun q h => nomatch h) (fun r1 _ r3 => r1.append r3)
      (fun D doc pm an cdv ct us mv ws h1 h2 h3 => match us, mv, ws, h1, h2, h3 with | [_, _, _], [], [_], _, _, _ => rfl)
    exact ⟨fa_paper_in, fd_paper_in, _, _, okd_paper_in, mg_paper_in, kp_paper_in, kb⟩
  have h_greatest := c_greatest (P := P) (w := w) (base := base) B h_weighed d_greatest
  obtain ⟨fa_is_later_in, fd_is_later_in, fu_is_later_in, fk_is_later_in, mg_is_later_in, kp_is_later_in⟩ := d_is_later_in.ex
  have okd_is_later_in := ok_is_later_in (P := P) (w := w) (base := base) B h_columns_of_both h_greatest h_is_weights fu_is_later_in
  obtain ⟨ds_is_later_in, dv_is_later_in, db_is_later_in⟩ : ∃ ds, Vals [V.non] ds ∧ Binds Cl.K fd_is_later_in ["one", "other", "ranges", "value", "total"] ds := fk_is_later_in.binds0 (ps := ["one", "other", "ranges", "value", "total"]) 4 (by simp) rfl fun D doc pm an cdv ct us ks hl hk => match us, ks, hl, hk with | [_, _, _, _], [_], _, _ => ⟨_, _, _, _, _, _, rfl, rfl, rfl⟩
  have h_is_later_in : C8.Cal P w Cl.K mg base 7 "is_later_in" (spT 5 f_is_later_in) [.non] := ⟨fa_is_later_in, fd_is_later_in, _, ds_is_later_in, okd_is_later_in, mg_is_later_in, kp_is_later_in, db_is_later_in, dv_is_later_in⟩
  have h_kw_is_later_in : CalN P w Cl.K mg base 7 "is_later_in" 4 ["total"] (spT (4 + 1) f_is_later_in) := by
    obtain ⟨mv, kb⟩ := fk_is_later_in.kbinds0 (ps := ["one", "other", "ranges", "value", "total"]) 4 ["total"] [] (fun us _ ws => us ++ ws) (by simp) (fun q h => nomatch h) (fun r1 _ r3 => r1.append r3)
      (fun D doc pm an cdv ct us mv ws h1 h2 h3 => match us, mv, ws, h1, h2, h3 with | [_, _, _, _], [], [_], _, _, _ => rfl)
    exact ⟨fa_is_later_in, fd_is_later_in, _, _, okd_is_later_in, mg_is_later_in, kp_is_later_in, kb⟩
  have h_law_fixed_right := cal_ref (c_law_fixed_right (P := P) (w := w) (base := base) B h_mk_Ends_1 h_ds_Ends_1 h_is_paper_in h_later_in h_paper_in h_is_later_in h_kw_later_in d_law_fixed_right) ref_law_fixed_right
  obtain ⟨fa_amounts, fd_amounts, fu_amounts, fk_amounts, mg_amounts, kp_amounts⟩ := d_amounts.ex
  have okd_amounts := ok_amounts (P := P) (w := w) (base := base) B h_p_Ends_names h_check_names h_p_Ends_chains h_kw_corners h_amount fu_amounts
  obtain ⟨ds_amounts, dv_amounts, db_amounts⟩ : ∃ ds, Vals [V.non] ds ∧ Binds Cl.K fd_amounts ["ends", "ranges", "total"] ds := fk_amounts.binds0 (ps := ["ends", "ranges", "total"]) 2 (by simp) rfl fun D doc pm an cdv ct us ks hl hk => match us, ks, hl, hk with | [_, _], [_], _, _ => ⟨_, _, _, _, _, _, rfl, rfl, rfl⟩
  have h_amounts : C8.Cal P w Cl.K mg base 6 "amounts" (spT 3 f_amounts) [.non] := ⟨fa_amounts, fd_amounts, _, ds_amounts, okd_amounts, mg_amounts, kp_amounts, db_amounts, dv_amounts⟩
  have h_kw_amounts : CalN P w Cl.K mg base 6 "amounts" 2 ["total"] (spT (2 + 1) f_amounts) := by
    obtain ⟨mv, kb⟩ := fk_amounts.kbinds0 (ps := ["ends", "ranges", "total"]) 2 ["total"] [] (fun us _ ws => us ++ ws) (by simp) (fun q h => nomatch h) (fun r1 _ r3 => r1.append r3)
      (fun D doc pm an cdv ct us mv ws h1 h2 h3 => match us, mv, ws, h1, h2, h3 with | [_, _], [], [_], _, _, _ => rfl)
    exact ⟨fa_amounts, fd_amounts, _, _, okd_amounts, mg_amounts, kp_amounts, kb⟩
  obtain ⟨fa_least_end_in, fd_least_end_in, fu_least_end_in, fk_least_end_in, mg_least_end_in, kp_least_end_in⟩ := d_least_end_in.ex
  have okd_least_end_in := ok_least_end_in (P := P) (w := w) (base := base) B h_kw_amounts h_settled fu_least_end_in
  obtain ⟨ds_least_end_in, dv_least_end_in, db_least_end_in⟩ : ∃ ds, Vals [V.non] ds ∧ Binds Cl.K fd_least_end_in ["ends", "ranges", "total"] ds := fk_least_end_in.binds0 (ps := ["ends", "ranges", "total"]) 2 (by simp) rfl fun D doc pm an cdv ct us ks hl hk => match us, ks, hl, hk with | [_, _], [_], _, _ => ⟨_, _, _, _, _, _, rfl, rfl, rfl⟩
  have h_least_end_in : C8.Cal P w Cl.K mg base 7 "least_end_in" (spT 3 f_least_end_in) [.non] := ⟨fa_least_end_in, fd_least_end_in, _, ds_least_end_in, okd_least_end_in, mg_least_end_in, kp_least_end_in, db_least_end_in, dv_least_end_in⟩
  have h_kw_least_end_in : CalN P w Cl.K mg base 7 "least_end_in" 2 ["total"] (spT (2 + 1) f_least_end_in) := by
    obtain ⟨mv, kb⟩ := fk_least_end_in.kbinds0 (ps := ["ends", "ranges", "total"]) 2 ["total"] [] (fun us _ ws => us ++ ws) (by simp) (fun q h => nomatch h) (fun r1 _ r3 => r1.append r3)
      (fun D doc pm an cdv ct us mv ws h1 h2 h3 => match us, mv, ws, h1, h2, h3 with | [_, _], [], [_], _, _, _ => rfl)
    exact ⟨fa_least_end_in, fd_least_end_in, _, _, okd_least_end_in, mg_least_end_in, kp_least_end_in, kb⟩
  obtain ⟨fa_greatest_end, fd_greatest_end, fu_greatest_end, fk_greatest_end, mg_greatest_end, kp_greatest_end⟩ := d_greatest_end.ex
  have okd_greatest_end := ok_greatest_end (P := P) (w := w) (base := base) B h_kw_amounts fu_greatest_end
  obtain ⟨ds_greatest_end, dv_greatest_end, db_greatest_end⟩ : ∃ ds, Vals [V.non] ds ∧ Binds Cl.K fd_greatest_end ["ends", "ranges", "total"] ds := fk_greatest_end.binds0 (ps := ["ends", "ranges", "total"]) 2 (by simp) rfl fun D doc pm an cdv ct us ks hl hk => match us, ks, hl, hk with | [_, _], [_], _, _ => ⟨_, _, _, _, _, _, rfl, rfl, rfl⟩
  have h_greatest_end : C8.Cal P w Cl.K mg base 7 "greatest_end" (spT 3 f_greatest_end) [.non] := ⟨fa_greatest_end, fd_greatest_end, _, ds_greatest_end, okd_greatest_end, mg_greatest_end, kp_greatest_end, db_greatest_end, dv_greatest_end⟩
  have h_kw_greatest_end : CalN P w Cl.K mg base 7 "greatest_end" 2 ["total"] (spT (2 + 1) f_greatest_end) := by
    obtain ⟨mv, kb⟩ := fk_greatest_end.kbinds0 (ps := ["ends", "ranges", "total"]) 2 ["total"] [] (fun us _ ws => us ++ ws) (by simp) (fun q h => nomatch h) (fun r1 _ r3 => r1.append r3)
      (fun D doc pm an cdv ct us mv ws h1 h2 h3 => match us, mv, ws, h1, h2, h3 with | [_, _], [], [_], _, _, _ => rfl)
    exact ⟨fa_greatest_end, fd_greatest_end, _, _, okd_greatest_end, mg_greatest_end, kp_greatest_end, kb⟩
  have h_law_beside_right := cal_ref (c_law_beside_right (P := P) (w := w) (base := base) B h_mk_Ends_1 h_ds_Ends_1 h_least_end_in h_kw_greatest_end h_kw_least_end_in h_kw_amounts h_kw_corners h_greatest_end d_law_beside_right) ref_law_beside_right
  exact ok_law B h_law_tape h_law_pick h_law_fixed_right h_law_beside_right h_mk_Ends_1 h_ds_Ends_1 h_paper_in F e_law_b e_law_r

end
end Tr
namespace Tr
open PySem PySem.Spec PyProof.Rows L2 Tm
section
variable {P : Program} {w : World} {K : PySem.W.Frag} {mg : Str → Option Value} {base : Heap}

abbrev mkCl (K : PySem.W.Frag) (ac6 : Addr)  (tb : List (Addr × Str)) : Cl := ⟨fun i => if i = 6 then ac6 else 0, K, fun _ => False, fun _ h => h.elim, tb⟩

theorem law_of {l : PySem.W.OpenLaw} {h : Heap} {fa f ac6 : Addr} {od an : Option Addr} {sl : Array (Option Value)} {oc kV dc pm cd ct : Value} (X : K.In h) (G : h.Ns mainGlobals mg) (hfa : mg "law" = some (.ref fa)) {c0 Pt : Addr} (cx : CodeX h mg "_gaining" c0)
    (a : PySem.W.nsIn K mainGlobals "law" = some (some (.ref f))) (lk : K.lookup f = some ⟨oc, od, .func (PySem.W.fnOf "law" "law" (C8.fnArgs s_law) (C8.fnBody s_law) (C8.fnScope s_law) .none kV dc pm an cd ct), sl⟩) (c : PySem.W.codeIn K cd "law" = true)
    (B : Bl mg)
    (h_b_gcd : mg "gcd" = some (.builtin "math.gcd"))
    (h_cl_Ends : Cls K ac6)
    (mg_Ends : mg "Ends" = some (.ref ac6))
    (h_na_Ends__chains : NoAttr K ac6 (Str.ofString "_chains"))
    (i_Ends : IniN K ac6 "Ends.__init__" s_Ends___init__)
    (x_Ends_names : PrpX K ac6 "names" "Ends.names" s_Ends_names)
    (x_Ends_chains : PrpX K ac6 "chains" "Ends.chains" s_Ends_chains)
    (d_law_tape : DefX K mg "_law_tape" s_law_tape)
    (d_law_pick : DefX K mg "_law_pick" s_law_pick)
    (d_is_int : DefX K mg "is_int" s_is_int)
    (d_is_name : DefX K mg "is_name" s_is_name)
    (d_is_pair : DefX K mg "_is_pair" s_is_pair)
    (d_is_chain : DefX K mg "is_chain" s_is_chain)
    (d_are_chains : DefX K mg "_are_chains" s_are_chains)
    (d_parts_ahead : DefX K mg "_parts_ahead" s_parts_ahead)
    (d_all_parts_ahead : DefX K mg "_all_parts_ahead" s_all_parts_ahead)
    (d_spread : DefX K mg "_spread" s_spread)
    (d_weighed : DefX K mg "weighed" s_weighed)
    (d_is_row : DefX K mg "_is_row" s_is_row)
    (d_is_matrix : DefX K mg "is_matrix" s_is_matrix)
    (d_first_table : DefX K mg "_first_table" s_first_table)
    (d_gaining : DefX K mg "_gaining" s_gaining)
    (d_is_tighter : DefX K mg "_is_tighter" s_is_tighter)
    (d_tightest : DefX K mg "_tightest" s_tightest)
    (d_turned_line : DefX K mg "_turned_line" s_turned_line)
    (d_turned : DefX K mg "_turned" s_turned)
    (d_best_table : DefX K mg "_best_table" s_best_table)
    (d_lowest : DefX K mg "_lowest" s_lowest)
    (d_settled : DefX K mg "settled" s_settled)
    (d_weigh_up : DefX K mg "weigh_up" s_weigh_up)
    (d_mixture : DefX K mg "mixture" s_mixture)
    (d_unbeaten : DefX K mg "_unbeaten" s_unbeaten)
    (d_is_count : DefX K mg "is_count" s_is_count)
    (d_is_range : DefX K mg "_is_range" s_is_range)
    (d_is_ranges : DefX K mg "_is_ranges" s_is_ranges)
    (d_check_names : DefX K mg "_check_names" s_check_names)
    (d_outer_days : DefX K mg "_outer_days" s_outer_days)
    (d_corner_days : DefX K mg "_corner_days" s_corner_days)
    (d_corners : DefK K mg "corners" s_corners [("total", .non)])
    (d_has_days : DefX K mg "has_days" s_has_days)
    (d_amount : DefX K mg "amount" s_amount)
    (d_columns : DefX K mg "_columns" s_columns)
    (d_columns_of_both : DefX K mg "_columns_of_both" s_columns_of_both)
    (d_gaps : DefX K mg "_gaps" s_gaps)
    (d_is_weights : DefX K mg "is_weights" s_is_weights)
    (d_weighs_up : DefX K mg "weighs_up" s_weighs_up)
    (d_is_paper_in : DefK K mg "is_paper_in" s_is_paper_in [("total", .non)])
    (d_later_in : DefK K mg "later_in" s_later_in [("total", .non)])
    (d_paper_in : DefK K mg "paper_in" s_paper_in [("total", .non)])
    (d_greatest : DefX K mg "_greatest" s_greatest)
    (d_is_later_in : DefK K mg "is_later_in" s_is_later_in [("total", .non)])
    (d_law_fixed_right : DefX K mg "_law_fixed_right" s_law_fixed_right)
    (d_amounts : DefK K mg "amounts" s_amounts [("total", .non)])
    (d_least_end_in : DefK K mg "least_end_in" s_least_end_in [("total", .non)])
    (d_greatest_end : DefK K mg "greatest_end" s_greatest_end [("total", .non)])
    (d_law_beside_right : DefX K mg "_law_beside_right" s_law_beside_right) :
    ∃ fd : FuncData, (∀ (s : Shared) (u : Value), BindsTo s fd ⟨[u], []⟩ [("script", u)]) ∧ ∀ base : Heap, K.In base → base.Ns mainGlobals mg → LamX.TabB base mg c0 Pt → FnOk l.prog w K mg base C8.CX0 13 fa fd ["script"] (spLawT K [(Pt, "_gaining.<locals>.<lambda>")]) := by
  have ee := hfa.symm.trans (PySem.W.mg_of X G a)
  cases ee
  exact ⟨PySem.W.fnOf "law" "law" (C8.fnArgs s_law) (C8.fnBody s_law) (C8.fnScope s_law) .none kV dc pm an cd ct, fun s v => .of_eq rfl, fun base _ _ tB => letI : Cl := (mkCl K ac6 [(Pt, "_gaining.<locals>.<lambda>")]); all_law (P := l.prog) (w := w) (mg := mg) (base := base) B h_b_gcd h_cl_Ends mg_Ends h_na_Ends__chains i_Ends x_Ends_names x_Ends_chains d_law_tape d_law_pick d_is_int d_is_name d_is_pair d_is_chain d_are_chains d_parts_ahead d_all_parts_ahead d_spread d_weighed d_is_row d_is_matrix d_first_table d_gaining d_is_tighter d_tightest d_turned_line d_turned d_best_table d_lowest d_settled d_weigh_up d_mixture d_unbeaten d_is_count d_is_range d_is_ranges d_check_names d_outer_days d_corner_days d_corners d_has_days d_amount d_columns d_columns_of_both d_gaps d_is_weights d_weighs_up d_is_paper_in d_later_in d_paper_in d_greatest d_is_later_in d_law_fixed_right d_amounts d_least_end_in d_greatest_end d_law_beside_right (tabX_of X cx tB) ⟨oc, od, .none, kV, dc, pm, an, cd, ct, sl, rfl, lk, c⟩⟩

end
end Tr

open PySem PySem.W PyProof.Rows Tr
set_option maxRecDepth 100000 in
set_option maxHeartbeats 0 in
theorem PySem.Challenge.cw_termlays_k42_ranges_by_hand_holds : PySem.Challenge.rw_termlays_k42_ranges_by_hand.Holds := by
  w_on; o_law; k_head; (case hw => w_witness2)
  k_fill
  refine Tr.walkT (l := PySem.Challenge.rw_termlays_k42_ranges_by_hand) (kk := 13) (x := "_gaining") (qn := "_gaining.<locals>.<lambda>") rfl (by decide) rfl ⟨rfl, by decide, by decide⟩ (fun w h Y => by first | exact PySem.W.kIn_of Y | exact PySem.W.km_in_of Y) (by kernel_rfl) (fun w => by kernel_rfl) ?F
  case F =>
    intro w mg fa h KX G hmg c0 Pt cx
    refine' Tr.law_of KX G hmg cx ?a0 ?l0 ?c0 (bl_of KX G ?z_len ?z_range ?z_int ?z_str ?z_bool ?z_list ?z_tuple ?z_dict ?z_set ?z_max ?z_min ?z_all ?z_sorted ?z_isinstance ?z_enumerate ?z_repr ?z_sum ?z_any ?z_zip ?z_abs ?z_type) (PySem.W.mg_of KX G ?bf_gcd) (cls_of ?s_Ends_pg ?s_Ends_hd ?s_Ends_po ?s_Ends_sa) (PySem.W.mg_of KX G ?sC_Ends) (na_of ?n_Ends__chains) (ini0_of ?i_Ends_mk ?i_Ends_a ?i_Ends_i ?i_Ends_kC ?i_Ends_l ?i_Ends_c ?i_Ends_k) (prpx_of ?x_Ends_names_a ?x_Ends_names_g ?x_Ends_names_t ?x_Ends_names_r ?x_Ends_names_l ?x_Ends_names_c) (prpx_of ?x_Ends_chains_a ?x_Ends_chains_g ?x_Ends_chains_t ?x_Ends_chains_r ?x_Ends_chains_l ?x_Ends_chains_c) (defx_of KX G ?d_law_tape_a ?d_law_tape_l ?d_law_tape_c ?d_law_tape_k) (defx_of KX G ?d_law_pick_a ?d_law_pick_l ?d_law_pick_c ?d_law_pick_k) (defx_of KX G ?d_is_int_a ?d_is_int_l ?d_is_int_c ?d_is_int_k) (defx_of KX G ?d_is_name_a ?d_is_name_l ?d_is_name_c ?d_is_name_k) (defx_of KX G ?d_is_pair_a ?d_is_pair_l ?d_is_pair_c ?d_is_pair_k) (defx_of KX G ?d_is_chain_a ?d_is_chain_l ?d_is_chain_c ?d_is_chain_k) (defx_of KX G ?d_are_chains_a ?d_are_chains_l ?d_are_chains_c ?d_are_chains_k) (defx_of KX G ?d_parts_ahead_a ?d_parts_ahead_l ?d_parts_ahead_c ?d_parts_ahead_k) (defx_of KX G ?d_all_parts_ahead_a ?d_all_parts_ahead_l ?d_all_parts_ahead_c ?d_all_parts_ahead_k) (defx_of KX G ?d_spread_a ?d_spread_l ?d_spread_c ?d_spread_k) (defx_of KX G ?d_weighed_a ?d_weighed_l ?d_weighed_c ?d_weighed_k) (defx_of KX G ?d_is_row_a ?d_is_row_l ?d_is_row_c ?d_is_row_k) (defx_of KX G ?d_is_matrix_a ?d_is_matrix_l ?d_is_matrix_c ?d_is_matrix_k) (defx_of KX G ?d_first_table_a ?d_first_table_l ?d_first_table_c ?d_first_table_k) (defx_of KX G ?d_gaining_a ?d_gaining_l ?d_gaining_c ?d_gaining_k) (defx_of KX G ?d_is_tighter_a ?d_is_tighter_l ?d_is_tighter_c ?d_is_tighter_k) (defx_of KX G ?d_tightest_a ?d_tightest_l ?d_tightest_c ?d_tightest_k) (defx_of KX G ?d_turned_line_a ?d_turned_line_l ?d_turned_line_c ?d_turned_line_k) (defx_of KX G ?d_turned_a ?d_turned_l ?d_turned_c ?d_turned_k) (defx_of KX G ?d_best_table_a ?d_best_table_l ?d_best_table_c ?d_best_table_k) (defx_of KX G ?d_lowest_a ?d_lowest_l ?d_lowest_c ?d_lowest_k) (defx_of KX G ?d_settled_a ?d_settled_l ?d_settled_c ?d_settled_k) (defx_of KX G ?d_weigh_up_a ?d_weigh_up_l ?d_weigh_up_c ?d_weigh_up_k) (defx_of KX G ?d_mixture_a ?d_mixture_l ?d_mixture_c ?d_mixture_k) (defx_of KX G ?d_unbeaten_a ?d_unbeaten_l ?d_unbeaten_c ?d_unbeaten_k) (defx_of KX G ?d_is_count_a ?d_is_count_l ?d_is_count_c ?d_is_count_k) (defx_of KX G ?d_is_range_a ?d_is_range_l ?d_is_range_c ?d_is_range_k) (defx_of KX G ?d_is_ranges_a ?d_is_ranges_l ?d_is_ranges_c ?d_is_ranges_k) (defx_of KX G ?d_check_names_a ?d_check_names_l ?d_check_names_c ?d_check_names_k) (defx_of KX G ?d_outer_days_a ?d_outer_days_l ?d_outer_days_c ?d_outer_days_k) (defx_of KX G ?d_corner_days_a ?d_corner_days_l ?d_corner_days_c ?d_corner_days_k) (defk_of KX G ?d_corners_a ?d_corners_k ?d_corners_l ?d_corners_c ?d_corners_q) (defx_of KX G ?d_has_days_a ?d_has_days_l ?d_has_days_c ?d_has_days_k) (defx_of KX G ?d_amount_a ?d_amount_l ?d_amount_c ?d_amount_k) (defx_of KX G ?d_columns_a ?d_columns_l ?d_columns_c ?d_columns_k) (defx_of KX G ?d_columns_of_both_a ?d_columns_of_both_l ?d_columns_of_both_c ?d_columns_of_both_k) (defx_of KX G ?d_gaps_a ?d_gaps_l ?d_gaps_c ?d_gaps_k) (defx_of KX G ?d_is_weights_a ?d_is_weights_l ?d_is_weights_c ?d_is_weights_k) (defx_of KX G ?d_weighs_up_a ?d_weighs_up_l ?d_weighs_up_c ?d_weighs_up_k) (defk_of KX G ?d_is_paper_in_a ?d_is_paper_in_k ?d_is_paper_in_l ?d_is_paper_in_c ?d_is_paper_in_q) (defk_of KX G ?d_later_in_a ?d_later_in_k ?d_later_in_l ?d_later_in_c ?d_later_in_q) (defk_of KX G ?d_paper_in_a ?d_paper_in_k ?d_paper_in_l ?d_paper_in_c ?d_paper_in_q) (defx_of KX G ?d_greatest_a ?d_greatest_l ?d_greatest_c ?d_greatest_k) (defk_of KX G ?d_is_later_in_a ?d_is_later_in_k ?d_is_later_in_l ?d_is_later_in_c ?d_is_later_in_q) (defx_of KX G ?d_law_fixed_right_a ?d_law_fixed_right_l ?d_law_fixed_right_c ?d_law_fixed_right_k) (defk_of KX G ?d_amounts_a ?d_amounts_k ?d_amounts_l ?d_amounts_c ?d_amounts_q) (defk_of KX G ?d_least_end_in_a ?d_least_end_in_k ?d_least_end_in_l ?d_least_end_in_c ?d_least_end_in_q) (defk_of KX G ?d_greatest_end_a ?d_greatest_end_k ?d_greatest_end_l ?d_greatest_end_c ?d_greatest_end_q) (defx_of KX G ?d_law_beside_right_a ?d_law_beside_right_l ?d_law_beside_right_c ?d_law_beside_right_k)
    (case sC_Ends => k_is)
    (case a0 => k_is)
    (case l0 => k_is)
    (case c0 => k_is)
    (case z_len => k_is)
    (case z_range => k_is)
    (case z_int => k_is)
    (case z_str => k_is)
    (case z_bool => k_is)
    (case z_list => k_is)
    (case z_tuple => k_is)
    (case z_dict => k_is)
    (case z_set => k_is)
    (case z_max => k_is)
    (case z_min => k_is)
    (case z_all => k_is)
    (case z_sorted => k_is)
    (case z_isinstance => k_is)
    (case z_enumerate => k_is)
    (case z_repr => k_is)
    (case z_sum => k_is)
    (case z_any => k_is)
    (case z_zip => k_is)
    (case z_abs => k_is)
    (case z_type => k_is)
    (case bf_gcd => k_is)
    (case s_Ends_pg => k_is)
    (case s_Ends_hd => k_is)
    (case s_Ends_po => k_is)
    (case s_Ends_sa => k_is)
    (case n_Ends__chains => k_is)
    (case i_Ends_mk => k_is)
    (case i_Ends_a => k_is)
    (case i_Ends_i => k_is)
    (case i_Ends_kC => k_is)
    (case i_Ends_l => k_is)
    (case i_Ends_c => k_is)
    (case i_Ends_k => k_is)
    (case x_Ends_names_a => k_is)
    (case x_Ends_names_g => k_is)
    (case x_Ends_names_t => k_is)
    (case x_Ends_names_r => k_is)
    (case x_Ends_names_l => k_is)
    (case x_Ends_names_c => k_is)
    (case x_Ends_chains_a => k_is)
    (case x_Ends_chains_g => k_is)
    (case x_Ends_chains_t => k_is)
    (case x_Ends_chains_r => k_is)
    (case x_Ends_chains_l => k_is)
    (case x_Ends_chains_c => k_is)
    (case d_law_tape_a => k_is)
    (case d_law_tape_l => k_is)
    (case d_law_tape_c => k_is)
    (case d_law_tape_k => k_is)
    (case d_law_pick_a => k_is)
    (case d_law_pick_l => k_is)
    (case d_law_pick_c => k_is)
    (case d_law_pick_k => k_is)
    (case d_is_int_a => k_is)
    (case d_is_int_l => k_is)
    (case d_is_int_c => k_is)
    (case d_is_int_k => k_is)
    (case d_is_name_a => k_is)
    (case d_is_name_l => k_is)
    (case d_is_name_c => k_is)
    (case d_is_name_k => k_is)
    (case d_is_pair_a => k_is)
    (case d_is_pair_l => k_is)
    (case d_is_pair_c => k_is)
    (case d_is_pair_k => k_is)
    (case d_is_chain_a => k_is)
    (case d_is_chain_l => k_is)
    (case d_is_chain_c => k_is)
    (case d_is_chain_k => k_is)
    (case d_are_chains_a => k_is)
    (case d_are_chains_l => k_is)
    (case d_are_chains_c => k_is)
    (case d_are_chains_k => k_is)
    (case d_parts_ahead_a => k_is)
    (case d_parts_ahead_l => k_is)
    (case d_parts_ahead_c => k_is)
    (case d_parts_ahead_k => k_is)
    (case d_all_parts_ahead_a => k_is)
    (case d_all_parts_ahead_l => k_is)
    (case d_all_parts_ahead_c => k_is)
    (case d_all_parts_ahead_k => k_is)
    (case d_spread_a => k_is)
    (case d_spread_l => k_is)
    (case d_spread_c => k_is)
    (case d_spread_k => k_is)
    (case d_weighed_a => k_is)
    (case d_weighed_l => k_is)
    (case d_weighed_c => k_is)
    (case d_weighed_k => k_is)
    (case d_is_row_a => k_is)
    (case d_is_row_l => k_is)
    (case d_is_row_c => k_is)
    (case d_is_row_k => k_is)
    (case d_is_matrix_a => k_is)
    (case d_is_matrix_l => k_is)
    (case d_is_matrix_c => k_is)
    (case d_is_matrix_k => k_is)
    (case d_first_table_a => k_is)
    (case d_first_table_l => k_is)
    (case d_first_table_c => k_is)
    (case d_first_table_k => k_is)
    (case d_gaining_a => k_is)
    (case d_gaining_l => k_is)
    (case d_gaining_c => k_is)
    (case d_gaining_k => k_is)
    (case d_is_tighter_a => k_is)
    (case d_is_tighter_l => k_is)
    (case d_is_tighter_c => k_is)
    (case d_is_tighter_k => k_is)
    (case d_tightest_a => k_is)
    (case d_tightest_l => k_is)
    (case d_tightest_c => k_is)
    (case d_tightest_k => k_is)
    (case d_turned_line_a => k_is)
    (case d_turned_line_l => k_is)
    (case d_turned_line_c => k_is)
    (case d_turned_line_k => k_is)
    (case d_turned_a => k_is)
    (case d_turned_l => k_is)
    (case d_turned_c => k_is)
    (case d_turned_k => k_is)
    (case d_best_table_a => k_is)
    (case d_best_table_l => k_is)
    (case d_best_table_c => k_is)
    (case d_best_table_k => k_is)
    (case d_lowest_a => k_is)
    (case d_lowest_l => k_is)
    (case d_lowest_c => k_is)
    (case d_lowest_k => k_is)
    (case d_settled_a => k_is)
    (case d_settled_l => k_is)
    (case d_settled_c => k_is)
    (case d_settled_k => k_is)
    (case d_weigh_up_a => k_is)
    (case d_weigh_up_l => k_is)
    (case d_weigh_up_c => k_is)
    (case d_weigh_up_k => k_is)
    (case d_mixture_a => k_is)
    (case d_mixture_l => k_is)
    (case d_mixture_c => k_is)
    (case d_mixture_k => k_is)
    (case d_unbeaten_a => k_is)
    (case d_unbeaten_l => k_is)
    (case d_unbeaten_c => k_is)
    (case d_unbeaten_k => k_is)
    (case d_is_count_a => k_is)
    (case d_is_count_l => k_is)
    (case d_is_count_c => k_is)
    (case d_is_count_k => k_is)
    (case d_is_range_a => k_is)
    (case d_is_range_l => k_is)
    (case d_is_range_c => k_is)
    (case d_is_range_k => k_is)
    (case d_is_ranges_a => k_is)
    (case d_is_ranges_l => k_is)
    (case d_is_ranges_c => k_is)
    (case d_is_ranges_k => k_is)
    (case d_check_names_a => k_is)
    (case d_check_names_l => k_is)
    (case d_check_names_c => k_is)
    (case d_check_names_k => k_is)
    (case d_outer_days_a => k_is)
    (case d_outer_days_l => k_is)
    (case d_outer_days_c => k_is)
    (case d_outer_days_k => k_is)
    (case d_corner_days_a => k_is)
    (case d_corner_days_l => k_is)
    (case d_corner_days_c => k_is)
    (case d_corner_days_k => k_is)
    (case d_corners_a => k_is)
    (case d_corners_k => k_is)
    (case d_corners_l => k_is)
    (case d_corners_c => k_is)
    (case d_corners_q => k_is)
    (case d_has_days_a => k_is)
    (case d_has_days_l => k_is)
    (case d_has_days_c => k_is)
    (case d_has_days_k => k_is)
    (case d_amount_a => k_is)
    (case d_amount_l => k_is)
    (case d_amount_c => k_is)
    (case d_amount_k => k_is)
    (case d_columns_a => k_is)
    (case d_columns_l => k_is)
    (case d_columns_c => k_is)
    (case d_columns_k => k_is)
    (case d_columns_of_both_a => k_is)
    (case d_columns_of_both_l => k_is)
    (case d_columns_of_both_c => k_is)
    (case d_columns_of_both_k => k_is)
    (case d_gaps_a => k_is)
    (case d_gaps_l => k_is)
    (case d_gaps_c => k_is)
    (case d_gaps_k => k_is)
    (case d_is_weights_a => k_is)
    (case d_is_weights_l => k_is)
    (case d_is_weights_c => k_is)
    (case d_is_weights_k => k_is)
    (case d_weighs_up_a => k_is)
    (case d_weighs_up_l => k_is)
    (case d_weighs_up_c => k_is)
    (case d_weighs_up_k => k_is)
    (case d_is_paper_in_a => k_is)
    (case d_is_paper_in_k => k_is)
    (case d_is_paper_in_l => k_is)
    (case d_is_paper_in_c => k_is)
    (case d_is_paper_in_q => k_is)
    (case d_later_in_a => k_is)
    (case d_later_in_k => k_is)
    (case d_later_in_l => k_is)
    (case d_later_in_c => k_is)
    (case d_later_in_q => k_is)
    (case d_paper_in_a => k_is)
    (case d_paper_in_k => k_is)
    (case d_paper_in_l => k_is)
    (case d_paper_in_c => k_is)
    (case d_paper_in_q => k_is)
    (case d_greatest_a => k_is)
    (case d_greatest_l => k_is)
    (case d_greatest_c => k_is)
    (case d_greatest_k => k_is)
    (case d_is_later_in_a => k_is)
    (case d_is_later_in_k => k_is)
    (case d_is_later_in_l => k_is)
    (case d_is_later_in_c => k_is)
    (case d_is_later_in_q => k_is)
    (case d_law_fixed_right_a => k_is)
    (case d_law_fixed_right_l => k_is)
    (case d_law_fixed_right_c => k_is)
    (case d_law_fixed_right_k => k_is)
    (case d_amounts_a => k_is)
    (case d_amounts_k => k_is)
    (case d_amounts_l => k_is)
    (case d_amounts_c => k_is)
    (case d_amounts_q => k_is)
    (case d_least_end_in_a => k_is)
    (case d_least_end_in_k => k_is)
    (case d_least_end_in_l => k_is)
    (case d_least_end_in_c => k_is)
    (case d_least_end_in_q => k_is)
    (case d_greatest_end_a => k_is)
    (case d_greatest_end_k => k_is)
    (case d_greatest_end_l => k_is)
    (case d_greatest_end_c => k_is)
    (case d_greatest_end_q => k_is)
    (case d_law_beside_right_a => k_is)
    (case d_law_beside_right_l => k_is)
    (case d_law_beside_right_c => k_is)
    (case d_law_beside_right_k => k_is)
