import PyProof.Rows.All
import Wide.All
import OpenK.AllK
import Wide.FinOn
import HandS.ForMost
import HandS.Codes
import HandS.IsInst
import HandS.TupAny
import HandS.Walk
import PySem.Challenge.RW_sayonce_k01_systems
import HandS.TryOnly
import HandS.DictComp
import KE.GoesEnum
import KE.GoesMore
import HandS.ForExc
import HandS.ExcInit
import HandS.ExcField
import KE.KExcIs
import HandS.Flow
section
set_option Elab.async false
set_option linter.all false
set_option maxRecDepth 100000
set_option maxHeartbeats 4000000
/-! steps: one lemma for each head of a reading -/
namespace R
open PySem L2 SX C8
/-- all that stood elsewhere stands -/
def SameBut (p : Addr) (H H' : Hp) : Prop := ∀ b o, b ≠ p → H b = some o → H' b = some o
section
variable {σ : L2.St} {H H' : Hp} {ta tb te tc : TE} {t u tt : TT} {ts us : TS} {x y z v : V} {r r' : R2} {Q : VK} {QT : Bool → Hp → Prop} {QA : List V → Hp → Prop} {D : Ends} {K : PySem.W.Frag} {i j m : Int} {k : Nat} {a p l : Addr} {xs ys : List V} {A B : Prop} {b : Bool} {ar as : TA}
theorem var (h : σ[k]? = some (some v)) (q : Q v H) : tVar k σ H Q := ⟨v, h, q⟩
theorem c (q : Q v H) : tC v σ H Q := q
theorem op (q : ta σ H fun x H1 => tb σ H1 fun y H2 => r x y H2 Q) : tOp r ta tb σ H Q := q
theorem un {f : V → Hp → VK → Prop} (q : ta σ H fun x H1 => f x H1 Q) : tUn f ta σ H Q := q
theorem i0 {g : Int → Int → V} (q : Q (g i j) H) : rI0 g (.int i) (.int j) H Q := ⟨i, j, rfl, rfl, q⟩
theorem ic {C : Int → Int → Prop} {g : Int → Int → V} (hc : C i j) (q : Q (g i j) H) : rI C g (.int i) (.int j) H Q := ⟨i, j, rfl, rfl, hc, q⟩
theorem u0 {g : Int → V} (q : Q (g i) H) : rU g (.int i) H Q := ⟨i, rfl, q⟩
theorem eq (h : scal x y = true) (q : Q (.bl (decide (x = y))) H) : rEq x y H Q := ⟨h, q⟩
theorem ne (h : scal x y = true) (q : Q (.bl (!decide (x = y))) H) : rNe x y H Q := ⟨h, q⟩
theorem eqI (q : Q (.bl (decide (i = j))) H) : rEq (.int i) (.int j) H Q := ⟨rfl, by
  have e : decide (V.int i = V.int j) = decide (i = j) := by
    by_cases h : i = j
    · subst h; simp
    · have h' : ¬ V.int i = V.int j := fun z => h (V.int.inj z)
      rw [decide_eq_false h, decide_eq_false h']
  rw [e]; exact q⟩
theorem neI (q : Q (.bl (!decide (i = j))) H) : rNe (.int i) (.int j) H Q := ⟨rfl, by
  have e : decide (V.int i = V.int j) = decide (i = j) := by
    by_cases h : i = j
    · subst h; simp
    · have h' : ¬ V.int i = V.int j := fun z => h (V.int.inj z)
      rw [decide_eq_false h, decide_eq_false h']
  rw [e]; exact q⟩
theorem tst (q : te σ H fun x H' => ∃ k, x = .bl k ∧ QT k H') : tTest te σ H QT := q
theorem tb_ (q : te σ H fun x H' => ∃ k, x = .bl k ∧ QT k H') : tB te σ H QT := q
theorem ex {QB : Bool → Prop} (q : QB b) : ∃ k, V.bl b = .bl k ∧ QB k := ⟨b, rfl, q⟩
theorem and_ (q : t σ H fun c H1 => if c = true then tt σ H1 QT else QT false H1) : tAnd t tt σ H QT := q
theorem or_ (q : t σ H fun c H1 => if c = true then QT true H1 else tt σ H1 QT) : tOr t tt σ H QT := q
theorem not_ (q : t σ H fun c H1 => QT (!c) H1) : tNot t σ H QT := q
theorem ife (q : t σ H fun c H1 => if c = true then ta σ H1 Q else tb σ H1 Q) : tIf t ta tb σ H Q := q
theorem chain (q : ta σ H fun x H1 => tb σ H1 fun y H2 => r x y H2 fun z H3 => ∃ k, z = .bl k ∧ (if k = true then tc σ H3 fun w' H4 => r' y w' H4 Q else Q (.bl false) H3)) : tChain r r' ta tb tc σ H Q := q
theorem nil (q : QA [] H) : tNil σ H QA := q
theorem cons (q : ta σ H fun x H1 => ar σ H1 fun xs H2 => QA (x :: xs) H2) : tCons ta ar σ H QA := q
theorem tup (q : ar σ H fun xs H1 => xs.length ≤ sizeLine ∧ ∀ p, H1 p = none → Q (.ref p) (upd H1 p (.tup xs))) : tTup ar σ H Q := q
theorem lst (q : ar σ H fun xs H1 => xs.length ≤ sizeLine ∧ ∀ p, H1 p = none → Q (.ref p) (upd H1 p (.lst xs))) : tLst ar σ H Q := q
theorem call {sp : Sp} {dvs : List V} {E : XK} (q : ar σ H fun vs H1 => sp (vs ++ dvs) H1 Q E) : tCall sp dvs E ar σ H Q := q
theorem cb {f : List V → Hp → VK → Prop} (q : ar σ H fun vs H1 => f vs H1 Q) : tCB f ar σ H Q := q
theorem ixL (h : H p = some (.lst xs)) (e : atI xs i = some v) (q : Q v H) : rIxL K (.ref p) (.int i) H Q := ⟨p, xs, i, v, rfl, rfl, SqL.of h, e, q⟩
theorem ixLs (h : SqL K H p xs) (e : atI xs i = some v) (q : Q v H) : rIxL K (.ref p) (.int i) H Q := ⟨p, xs, i, v, rfl, rfl, h, e, q⟩
theorem ixT (h : SqT K H p xs) (e : atI xs i = some v) (q : Q v H) : rIxT K (.ref p) (.int i) H Q := ⟨p, xs, i, v, rfl, rfl, h, e, q⟩
theorem setL {QH : Hp → Prop} {n : Nat} (h : H p = some (.lst xs)) (e : ixN xs.length i = some n) (q : QH (upd H p (.lst (xs.set n v)))) : rSetL (.ref p) (.int i) v H QH := ⟨p, xs, i, n, rfl, rfl, h, e, q⟩
theorem bm {T : String} {f : V → List V → Hp → VK → Prop} (q : te σ H fun x H1 => tyV K T x H1 ∧ ar σ H1 fun xs H2 => f x xs H2 Q) : tBM K T f te ar σ H Q := q
theorem append (h : H p = some (.lst xs)) (e : xs.length < sizeLine) (q : Q .non (upd H p (.lst (xs ++ [y])))) : rAppend (.ref p) [y] H Q := ⟨p, xs, y, rfl, rfl, h, e, q⟩
theorem seq (q : ts { D with nx := us D } σ H) : tSeq ts us D σ H := q
theorem next (q : D.nx σ H) : tNext D σ H := q
theorem drop (q : te σ H fun _ H1 => D.nx σ H1) : tDrop te D σ H := q
theorem ret (q : te σ H D.rt) : tRet te D σ H := q
theorem retN (q : D.rt .non H) : tRetN D σ H := q
theorem ifs (q : t σ H fun b H1 => if b = true then ts D σ H1 else us D σ H1) : tIfS t ts us D σ H := q
theorem asg {g : TG} (q : te σ H fun x H1 => g x σ H1 D.nx) : tAsg te g D σ H := q
theorem gname {QS : L2.St → Hp → Prop} (q : QS (σ.set k (some v)) H) : gName k v σ H QS := q
theorem gsub {to ti : TE} {f : TSet} {QS : L2.St → Hp → Prop} (q : to σ H fun o H1 => ti σ H1 fun i H2 => f o i v H2 fun H3 => QS σ H3) : gSub to ti f v σ H QS := q
theorem gtup {n : Nat} {tg : TGs} {QS : L2.St → Hp → Prop} (h : SqT K H a xs) (e : xs.length = n) (q : tg xs σ H QS) : gTup K n tg (.ref a) σ H QS := ⟨a, xs, rfl, h, e, q⟩
theorem gnil {QS : L2.St → Hp → Prop} (q : QS σ H) : gNil [] σ H QS := ⟨rfl, q⟩
theorem gcons {g : TG} {gs : TGs} {QS : L2.St → Hp → Prop} (q : g v σ H fun σ' H' => gs xs σ' H' QS) : gCons g gs (v :: xs) σ H QS := ⟨v, xs, rfl, q⟩
theorem yes (q : QT true H) : tYes σ H QT := q
theorem it {C : Prop} [Decidable C] (h1 : C → A) (h2 : ¬ C → B) : if decide C = true then A else B := by
  by_cases h : C
  · rw [if_pos (decide_eq_true h)]; exact h1 h
  · rw [if_neg (by rw [decide_eq_false h]; exact Bool.false_ne_true)]; exact h2 h
theorem itn {C : Prop} [Decidable C] (h1 : ¬ C → A) (h2 : C → B) : if (!decide C) = true then A else B := by
  by_cases h : C
  · rw [decide_eq_true h]; exact h2 h
  · rw [decide_eq_false h]; exact h1 h
theorem itY {C : Prop} [Decidable C] (h : C) (q : A) : if decide C = true then A else B := by rw [if_pos (decide_eq_true h)]; exact q
theorem itN {C : Prop} [Decidable C] (h : ¬ C) (q : B) : if decide C = true then A else B := by rw [if_neg (by rw [decide_eq_false h]; exact Bool.false_ne_true)]; exact q
theorem itT (q : A) : if true = true then A else B := by rw [if_pos rfl]; exact q
theorem itF (q : B) : if false = true then A else B := by rw [if_neg Bool.false_ne_true]; exact q
theorem itNT (q : B) : if (!true) = true then A else B := q
theorem itNF (q : A) : if (!false) = true then A else B := q
theorem notT (q : QT false H) : QT (!true) H := q
theorem notF (q : QT true H) : QT (!false) H := q
/-! built-ins by name -/
def rInt1 : List V → Hp → VK → Prop := fun xs H Q => ∃ i, xs = [.int i] ∧ Q (.int i) H
def rLenS (K : PySem.W.Frag) : List V → Hp → VK → Prop := fun xs H Q => ∃ p ys, xs = [.ref p] ∧ (SqL K H p ys ∨ SqT K H p ys) ∧ Q (.int ys.length) H
def rLenStr : List V → Hp → VK → Prop := fun xs H Q => ∃ z : Str, xs = [.str z] ∧ z.length ≤ sizeLine ∧ Q (.int z.length) H
theorem cInt {X : Cx} : CallR X (.type "int") rInt1 := fun pins s σ H xs us Q I r h => call_int1 pins s σ H xs us Q I r (.inl h)
theorem cLen {X : Cx} : CallR X (.builtin "len") (rLenS X.K) := call_len_seq
theorem cLenS {X : Cx} : CallR X (.builtin "len") rLenStr := call_len_str
theorem int1 (q : Q (.int i) H) : rInt1 [.int i] H Q := ⟨i, rfl, q⟩
theorem lenL (h : H p = some (.lst xs)) (q : Q (.int xs.length) H) : rLenS K [.ref p] H Q := ⟨p, xs, rfl, .inl (SqL.of h), q⟩
theorem lenT (h : SqT K H p xs) (q : Q (.int xs.length) H) : rLenS K [.ref p] H Q := ⟨p, xs, rfl, .inr h, q⟩
theorem lenStr {w : Str} (h : w.length ≤ sizeLine) (q : Q (.int w.length) H) : rLenStr [.str w] H Q := ⟨w, rfl, h, q⟩
def rIs : R2 := fun x y H Q => y = .non ∧ Q (.bl (decide (x = .non))) H
def rIsNot : R2 := fun x y H Q => y = .non ∧ Q (.bl (!decide (x = .non))) H
theorem oIs {X : Cx} : OpR X (compareOp .Is) rIs := op_isN
theorem oIsNot {X : Cx} : OpR X (compareOp .IsNot) rIsNot := op_notN
theorem is_ (q : Q (.bl (decide (x = .non))) H) : rIs x .non H Q := ⟨rfl, q⟩
theorem isnot (q : Q (.bl (!decide (x = .non))) H) : rIsNot x .non H Q := ⟨rfl, q⟩
theorem isi {s t : String} {b : Bool} (ty : TyX K H x (.type s)) (h : kitB s t = some b) (q : Q (.bl b) H) : rIsi K [x, .ty t] H Q := ⟨x, .ty t, .type s, .type t, b, rfl, .ty t, ty, kit_ty h, q⟩
theorem tyN : TyX K H .non (.type "NoneType") := .base .non
theorem tyB {b : Bool} : TyX K H (.bl b) (.type "bool") := .base (.bl b)
theorem tyI : TyX K H (.int i) (.type "int") := .base (.int i)
theorem tyS {w : Str} : TyX K H (.str w) (.type "str") := .base (.str w)
theorem tyT (h : H a = some (.tup xs)) : TyX K H (.ref a) (.type "tuple") := .base (.tup h)
theorem tyL (h : H a = some (.lst xs)) : TyX K H (.ref a) (.type "list") := .base (.lst h)
theorem andV (q : ta σ H fun x H1 => ∃ c, x = .bl c ∧ if c = true then tb σ H1 Q else Q (.bl false) H1) : tAndV ta tb σ H Q := q
theorem orV (q : ta σ H fun x H1 => ∃ c, x = .bl c ∧ if c = true then Q (.bl true) H1 else tb σ H1 Q) : tOrV ta tb σ H Q := q
theorem notV (q : ta σ H fun x H1 => ∃ c, x = .bl c ∧ Q (.bl (!c)) H1) : tNotV ta σ H Q := q
theorem rng1 {R : It → Hp → Prop} {ar : TA} (q : ar σ H fun vs H1 => ∃ j : Int, vs = [.int j] ∧ -(2 ^ 62) ≤ j ∧ j < 2 ^ 62 ∧ R (Itr 0 j.toNat) H1) : iRng1 ar σ H R := q
theorem rngE {QR : Int → Prop} (h : -(2 ^ 62) ≤ i ∧ i < 2 ^ 62) (q : QR i) : ∃ j : Int, [V.int i] = [.int j] ∧ -(2 ^ 62) ≤ j ∧ j < 2 ^ 62 ∧ QR j := ⟨i, rfl, h.1, h.2, q⟩
theorem all_ {bs : List Bool} (h : H p = some (.lst (bs.map V.bl))) (q : Q (.bl (bs.all id)) H) : rAll K [.ref p] H Q := ⟨p, bs, rfl, SqL.of h, q⟩
theorem all_rep : ∀ n, (List.replicate n true).all id = true
  | 0 => rfl
  | n + 1 => by rw [List.replicate_succ, List.all_cons, all_rep n]; rfl
/-! the written part told outright -/
section
variable {X : Cx} (K : PySem.W.Frag)
theorem kIxL (h : X.K = K := by rfl) : IxR X (rIxL K) := h ▸ ix_list
theorem kIxT (h : X.K = K := by rfl) : IxR X (rIxT K) := h ▸ ix_tup
theorem kLen (h : X.K = K := by rfl) : CallR X (.builtin "len") (rLenS K) := h ▸ cLen
theorem kIsi (h : X.K = K := by rfl) : CallR X (.builtin "isinstance") (rIsi K) := h ▸ call_isi
theorem kIn (h : X.K = K := by rfl) : OpR X (compareOp .In) (rIn K false) := h ▸ op_in_seq
theorem kNotIn (h : X.K = K := by rfl) : OpR X (compareOp .NotIn) (rIn K true) := h ▸ op_notIn_seq
theorem kAll (hc : X.calm = true := by rfl) (h : X.K = K := by rfl) : CallR X (.builtin "all") (rAll K) := h ▸ cr_all hc
theorem kMax (hc : X.calm = true := by rfl) (h : X.K = K := by rfl) : CallR X (.builtin "max") (rMax K) := h ▸ cr_max hc
theorem kMin (hc : X.calm = true := by rfl) (h : X.K = K := by rfl) : CallR X (.builtin "min") (rMin K) := h ▸ cr_min hc
theorem kCatT (h : X.K = K := by rfl) : OpR X (binaryOp .Add) (rCatA K) := h ▸ op_catA
theorem kSlL (h : X.K = K := by rfl) : SlR X (rSlL K) := h ▸ sl_list
def rListS (K : PySem.W.Frag) : List V → Hp → VK → Prop := fun xs H Q => ∃ p ys, xs = [.ref p] ∧ (SqL K H p ys ∨ SqT K H p ys) ∧ ∀ l, H l = none → Q (.ref l) (upd H l (.lst ys))
def rTupS (K : PySem.W.Frag) : List V → Hp → VK → Prop := fun xs H Q => ∃ p ys, xs = [.ref p] ∧ ((SqL K H p ys ∧ ∀ l, H l = none → Q (.ref l) (upd H l (.tup ys))) ∨ (SqT K H p ys ∧ Q (.ref p) H))
theorem kList (h : X.K = K := by rfl) : CallR X (.type "list") (rListS K) := h ▸ call_list_of
theorem kTuple (h : X.K = K := by rfl) : CallR X (.type "tuple") (rTupS K) := h ▸ call_tuple_of
def rMax2 : List V → Hp → VK → Prop := fun xs H Q => ∃ i j, xs = [.int i, .int j] ∧ Q (.int (if j > i then j else i)) H
def rMin2 : List V → Hp → VK → Prop := fun xs H Q => ∃ i j, xs = [.int i, .int j] ∧ Q (.int (if j < i then j else i)) H
theorem kMax2 (hc : X.calm = true := by rfl) : CallR X (.builtin "max") rMax2 := call_max2 hc
theorem kMin2 (hc : X.calm = true := by rfl) : CallR X (.builtin "min") rMin2 := call_min2 hc
theorem kiL {tg l : Expr} {tl : TE} (hl : PE X l tl) (h : X.K = K := by rfl) : PI X tg l (iList K tl) := h ▸ pi_list hl
theorem kiT {tg l : Expr} {tl : TE} (hl : PE X l tl) (h : X.K = K := by rfl) : PI X tg l (iTup K tl) := h ▸ pi_tup hl
theorem kFld {e : Expr} {ta : TE} {f : Str} {pos : Pos} (he : PE X e ta) (hb : attributeBase e f X.env (eval e X.env) = eval e X.env := by rfl) (h : X.K = K := by rfl) : PE X (.Attribute e f pos) (tFld K ta f) := h ▸ pe_fld he hb
def rAddS : R2 := fun x y H Q => ∃ i j : Str, x = .str i ∧ y = .str j ∧ i.length + j.length ≤ sizeLine ∧ Q (.str (i ++ j)) H
theorem oAddS {X : Cx} : OpR X (binaryOp .Add) rAddS := op_add_str
end
theorem addS {i j : Str} (h : i.length + j.length ≤ sizeLine) (q : Q (.str (i ++ j)) H) : rAddS (.str i) (.str j) H Q := ⟨i, j, rfl, rfl, h, q⟩
theorem listL (h : H p = some (.lst xs)) (q : ∀ l, H l = none → Q (.ref l) (upd H l (.lst xs))) : rListS K [.ref p] H Q := ⟨p, xs, rfl, .inl (SqL.of h), q⟩
theorem listT (h : SqT K H p xs) (q : ∀ l, H l = none → Q (.ref l) (upd H l (.lst xs))) : rListS K [.ref p] H Q := ⟨p, xs, rfl, .inr h, q⟩
theorem tupL (h : H p = some (.lst xs)) (q : ∀ l, H l = none → Q (.ref l) (upd H l (.tup xs))) : rTupS K [.ref p] H Q := ⟨p, xs, rfl, .inl ⟨SqL.of h, q⟩⟩
theorem tupT (h : SqT K H p xs) (q : Q (.ref p) H) : rTupS K [.ref p] H Q := ⟨p, xs, rfl, .inr ⟨h, q⟩⟩
theorem max2 (q : Q (.int (if j > i then j else i)) H) : rMax2 [.int i, .int j] H Q := ⟨i, j, rfl, q⟩
theorem min2 (q : Q (.int (if j < i then j else i)) H) : rMin2 [.int i, .int j] H Q := ⟨i, j, rfl, q⟩
theorem fld {C dx : Addr} {fs : List (Str × V)} {f : Str} (q : ta σ H fun x H1 => ∃ a C dx fs v, x = .ref a ∧ H1 a = some (.ins C dx fs) ∧ Cls K C ∧ NoAttr K C f ∧ fs.lookup f = some v ∧ Q v H1) : tFld K ta f σ H Q := q
theorem itlist {R : It → Hp → Prop} (q : ta σ H fun x H1 => ∃ a, x = .ref a ∧ (∃ xs, SqL K H1 a xs) ∧ R (Itl K a) H1) : iList K ta σ H R := q
theorem ittup {R : It → Hp → Prop} (q : ta σ H fun x H1 => ∃ a, x = .ref a ∧ (∃ xs, SqT K H1 a xs) ∧ R (Itt K a) H1) : iTup K ta σ H R := q
theorem kit_NoneType_tuple : kitB "NoneType" "tuple" = some false := by decide +kernel
theorem kit_NoneType_list : kitB "NoneType" "list" = some false := by decide +kernel
theorem kit_NoneType_bool : kitB "NoneType" "bool" = some false := by decide +kernel
theorem kit_NoneType_str : kitB "NoneType" "str" = some false := by decide +kernel
theorem kit_NoneType_int : kitB "NoneType" "int" = some false := by decide +kernel
theorem kit_bool_tuple : kitB "bool" "tuple" = some false := by decide +kernel
theorem kit_bool_list : kitB "bool" "list" = some false := by decide +kernel
theorem kit_bool_bool : kitB "bool" "bool" = some true := by decide +kernel
theorem kit_bool_str : kitB "bool" "str" = some false := by decide +kernel
theorem kit_bool_int : kitB "bool" "int" = some true := by decide +kernel
theorem kit_int_tuple : kitB "int" "tuple" = some false := by decide +kernel
theorem kit_int_list : kitB "int" "list" = some false := by decide +kernel
theorem kit_int_bool : kitB "int" "bool" = some false := by decide +kernel
theorem kit_int_str : kitB "int" "str" = some false := by decide +kernel
theorem kit_int_int : kitB "int" "int" = some true := by decide +kernel
theorem kit_str_tuple : kitB "str" "tuple" = some false := by decide +kernel
theorem kit_str_list : kitB "str" "list" = some false := by decide +kernel
theorem kit_str_bool : kitB "str" "bool" = some false := by decide +kernel
theorem kit_str_str : kitB "str" "str" = some true := by decide +kernel
theorem kit_str_int : kitB "str" "int" = some false := by decide +kernel
theorem kit_tuple_tuple : kitB "tuple" "tuple" = some true := by decide +kernel
theorem kit_tuple_list : kitB "tuple" "list" = some false := by decide +kernel
theorem kit_tuple_bool : kitB "tuple" "bool" = some false := by decide +kernel
theorem kit_tuple_str : kitB "tuple" "str" = some false := by decide +kernel
theorem kit_tuple_int : kitB "tuple" "int" = some false := by decide +kernel
theorem kit_list_tuple : kitB "list" "tuple" = some false := by decide +kernel
theorem kit_list_list : kitB "list" "list" = some true := by decide +kernel
theorem kit_list_bool : kitB "list" "bool" = some false := by decide +kernel
theorem kit_list_str : kitB "list" "str" = some false := by decide +kernel
theorem kit_list_int : kitB "list" "int" = some false := by decide +kernel
/-- the turns of a comprehension whose new list is at D -/
def LcW (J : It) (g : TG) (tt : TT) (te : TE) (vs : List Nat) (σ : L2.St) (H1 : Hp) (D : Addr) (Q : VK) : Prop :=
  ∃ W : Nat → Nat → Hp → Prop, (∃ m, W 0 m (upd H1 D (.lst []))) ∧
    ∀ i m H, W i m H → (J.stop i H ∧ Q (.ref D) H) ∨
      (J.go i H ∧ ∃ Nx : Hp → Prop, (∀ H', Nx H' → ∃ m', m' < m ∧ W (i + 1) m' H') ∧
        ∀ x H', J.yld i H x H' → g x (wipe σ vs) H' fun σ2 H2 => wipe σ2 vs = wipe σ vs ∧
          tt σ2 H2 fun b H3 => if b = true then te σ2 H3 fun y H4 => ∃ acc, H4 D = some (.lst acc) ∧ acc.length < sizeLine ∧ Nx (upd H4 D (.lst (acc ++ [y]))) else Nx H3)
theorem lc {wi : TI} {g : TG} {vs : List Nat} (q : wi σ H fun J H1 => ∀ D, H1 D = none → LcW J g tt te vs σ H1 D Q) : tLc wi g tt te vs σ H Q := q
def ForW (J : It) (g : TG) (ts : TS) (D : Ends) (σ : L2.St) (H1 : Hp) : Prop :=
  ∃ W : Nat → Nat → L2.St → Hp → Prop, (∃ m, W 0 m σ H1) ∧
    ∀ i m σ H, W i m σ H → (J.stop i H ∧ D.nx σ H) ∨
      (J.go i H ∧ ∃ N : L2.St → Hp → Prop, (∀ σ' H', N σ' H' → ∃ m', m' < m ∧ W (i + 1) m' σ' H') ∧
        ∀ x H', J.yld i H x H' → g x σ H' fun σ2 H2 => ts { D with nx := N, ct := N, bk := D.nx } σ2 H2)
theorem for_ {wi : TI} {g : TG} (q : wi σ H fun J H1 => ForW J g ts D σ H1) : tFor wi g ts D σ H := q
theorem dT {C : Prop} [Decidable C] (h : C) (q : Q (.bl true) H) : Q (.bl (decide C)) H := by rw [decide_eq_true h]; exact q
/-! signs and texts -/
def rLeS : R2 := fun x y H Q => ∃ i j : Str, x = .str i ∧ y = .str j ∧ Q (.bl (!decide (j.cps.toList < i.cps.toList))) H
theorem oLeS {X : Cx} : OpR X (compareOp .LtE) rLeS := op_le_str
theorem leS {s u : Str} (q : Q (.bl (!decide (u.cps.toList < s.cps.toList))) H) : rLeS (.str s) (.str u) H Q := ⟨s, u, rfl, rfl, q⟩
theorem lt1 {a b : Nat} : ([a] < [b]) ↔ a < b := by
  constructor
  · intro h
    rcases Nat.lt_trichotomy a b with q | q | q
    · exact q
    · subst q; exact absurd h (List.lt_irrefl _)
    · exact absurd (List.lt_trans h (List.Lex.rel q)) (List.lt_irrefl _)
  · intro h; exact List.Lex.rel h
theorem ixS {w : Str} {n : Nat} (h : w.length ≤ sizeLine) (e : atI w.cps.toList i = some n) (q : Q (.str ⟨#[n]⟩) H) : rIxS (.str w) (.int i) H Q := ⟨w, i, n, rfl, rfl, h, e, q⟩
theorem itstr {R : It → Hp → Prop} (q : te σ H fun v H1 => ∃ x, v = .str x ∧ R (Its x) H1) : iStr te σ H R := q
theorem itstrE {w : Str} {R : Str → Prop} (q : R w) : ∃ x, V.str w = .str x ∧ R x := ⟨w, rfl, q⟩
theorem chE {b : Bool} {QB : Bool → Prop} (q : QB b) : ∃ k, V.bl b = .bl k ∧ QB k := ⟨b, rfl, q⟩
theorem inL {b : Bool} (h : H p = some (.lst xs)) (hx : flatV x = true) (hs : xs.all flatV = true) (e : inV x xs = b) (q : Q (.bl b) H) : rIn K false x (.ref p) H Q := ⟨p, xs, rfl, .inl (SqL.of h), hx, hs, by subst e; exact q⟩
theorem ninL {b : Bool} (h : H p = some (.lst xs)) (hx : flatV x = true) (hs : xs.all flatV = true) (e : (!inV x xs) = b) (q : Q (.bl b) H) : rIn K true x (.ref p) H Q := ⟨p, xs, rfl, .inl (SqL.of h), hx, hs, by subst e; exact q⟩
theorem inT {b : Bool} (h : H p = some (.tup xs)) (hx : flatV x = true) (hs : xs.all flatV = true) (e : inV x xs = b) (q : Q (.bl b) H) : rIn K false x (.ref p) H Q := ⟨p, xs, rfl, .inr (SqT.of h), hx, hs, by subst e; exact q⟩
theorem flat_strs (ws : List Str) : (ws.map V.str).all flatV = true := by
  rw [List.all_eq_true]; intro v hv; obtain ⟨w, _, rfl⟩ := List.mem_map.mp hv; rfl
theorem in_strs (w : Str) : ∀ ws : List Str, inV (.str w) (ws.map V.str) = decide (w ∈ ws)
  | [] => rfl
  | u :: ws => by
    have ih := in_strs w ws
    unfold inV at ih ⊢
    rw [List.map_cons, List.any_cons, ih]
    by_cases h : w = u
    · subst h
      have e : eqV (.str w) (.str w) = true := by simp [eqV]
      rw [e]; simp
    · have e : eqV (.str u) (.str w) = false := by
        simp only [eqV]
        simpa using fun z => h z.symm
      rw [e]; simp [h]
theorem atI_in {xs : List V} {i : Int} (h0 : 0 ≤ i) (h1 : i < xs.length) : ∃ v, v ∈ xs ∧ atI xs i = some v := by
  have hlt : i.toNat < xs.length := by omega
  exact ⟨xs[i.toNat], List.getElem_mem hlt, at_of (by omega) (List.getElem?_eq_getElem hlt)⟩
theorem joinS (a : List Nat) (ys : List (List Nat)) : Txt.join (S a) (ys.map S) = S (TL.joinL a ys) := join_S a ys
theorem joinL_nil : ∀ ys : List (List Nat), TL.joinL [] ys = ys.flatten
  | [] => rfl
  | [p] => by simp [TL.joinL]
  | p :: q :: r => by
    have ih := joinL_nil (q :: r)
    simp only [TL.joinL] at ih ⊢
    rw [List.nil_append, ih]
    simp
/-- of more texts than are taken one is free -/
theorem one_free {α : Type} [DecidableEq α] : ∀ (l ws : List α), l.Nodup → ws.length < l.length → ∃ x ∈ l, x ∉ ws := by
  intro l
  induction l with
  | nil => intro ws _ h; exact absurd h (Nat.not_lt_zero _)
  | cons a l ih =>
    intro ws hn h
    by_cases ha : a ∈ ws
    · obtain ⟨h1, h2⟩ := List.nodup_cons.mp hn
      have hl : (ws.erase a).length < l.length := by
        rw [List.length_erase_of_mem ha]
        have : 0 < ws.length := List.length_pos_of_mem ha
        rw [List.length_cons] at h
        omega
      obtain ⟨x, hx, hx2⟩ := ih (ws.erase a) h2 hl
      refine ⟨x, List.mem_cons_of_mem _ hx, fun m => hx2 ?_⟩
      have hxa : x ≠ a := fun e => h1 (e ▸ hx)
      exact (List.mem_erase_of_ne hxa).mpr m
    · exact ⟨a, List.mem_cons_self, ha⟩
section
variable {X : Cx} (K : PySem.W.Frag)
def rJoin (K : PySem.W.Frag) : V → List V → Hp → VK → Prop := fun x xs H Q => ∃ (a : Str) (p : Addr) (ys : List Str), x = .str a ∧ xs = [.ref p] ∧ (SqL K H p (ys.map V.str) ∨ SqT K H p (ys.map V.str)) ∧
  (ys.map (·.length)).sum + ys.length * a.length ≤ 16777216 ∧ Q (.str (Txt.join a ys)) H
theorem kJoin {o e : Expr} {to te : TE} {apos pos : Pos} (ho : PE X o to) (he : PE X e te) (hs : starEach [e] X.env = [(false, eval e X.env)] := by rfl) (hbase : attributeBase o "join" X.env (eval o X.env) = eval o X.env := by rfl) (hline : (apos.endLine == pos.line) = true := by rfl) (h : X.K = K := by rfl) :
    PE X (.Call (.Attribute o "join" apos) [e] [] pos) (tM1 (rJoin K) to te) := h ▸ pe_join ho he hs hbase hline
end
theorem join_ {a : Str} {ys : List Str} (h : H p = some (.lst (ys.map V.str))) (hz : (ys.map (·.length)).sum + ys.length * a.length ≤ 16777216) (q : Q (.str (Txt.join a ys)) H) : rJoin K (.str a) [.ref p] H Q := ⟨a, p, ys, rfl, rfl, .inl (SqL.of h), hz, q⟩
theorem m1 {f : V → List V → Hp → VK → Prop} (q : ta σ H fun x H1 => (∃ a, x = .str a) ∧ te σ H1 fun y H2 => f x [y] H2 Q) : tM1 f ta te σ H Q := q
theorem m1s {w : Str} (q : A) : (∃ a, V.str w = .str a) ∧ A := ⟨⟨w, rfl⟩, q⟩
section
variable {X : Cx} (K : PySem.W.Frag)
theorem kBM {e : Expr} {T : String} {f : V → List V → Hp → VK → Prop} {to : TE} {t : TA} (hp : PE X e (tBM X.K T f to t)) (h : X.K = K := by rfl) : PE X e (tBM K T f to t) := h ▸ hp
end
theorem tyl (h : H p = some (.lst xs)) (q : A) : tyV K "list" (.ref p) H ∧ A := ⟨.inl ⟨rfl, _, SqL.of h⟩, q⟩
theorem itlE {QQ : Addr → Prop} (h : H p = some (.lst xs)) (q : QQ p) : ∃ a, V.ref p = .ref a ∧ (∃ xs, SqL K H a xs) ∧ QQ a := ⟨p, rfl, ⟨xs, SqL.of h⟩, q⟩
theorem ittE {QQ : Addr → Prop} (h : H p = some (.tup xs)) (q : QQ p) : ∃ a, V.ref p = .ref a ∧ (∃ xs, SqT K H a xs) ∧ QQ a := ⟨p, rfl, ⟨xs, SqT.of h⟩, q⟩
theorem flat1 : ∀ cs : List Nat, (cs.map fun c => [c]).flatten = cs
  | [] => rfl
  | c :: cs => by rw [List.map_cons, List.flatten_cons, flat1 cs]; rfl
theorem cut {t u : TS} (Mid : L2.St → Hp → Prop) (h1 : t { D with nx := Mid } σ H) (h2 : ∀ σ' H', Mid σ' H' → u D σ' H') : tCut t u D σ H := ⟨Mid, h1, h2⟩
theorem sb {o : HO} {b : Addr} (e : SameBut p H H') (n : b ≠ p) (h : H b = some o) : H' b = some o := e b o n h
theorem sm {o : HO} {b : Addr} (e : Same H H') (h : H b = some o) : H' b = some o := e b o h
/-! heaps -/
theorem SameBut.refl : SameBut p H H := fun _ _ _ h => h
theorem SameBut.trans {H1 H2 : Hp} (e : SameBut p H H1) (f : SameBut p H1 H2) : SameBut p H H2 := fun b o n h => f b o n (e b o n h)
theorem SameBut.put {o : HO} (e : SameBut p H H') : SameBut p H (upd H' p o) := fun b u n h => by rw [upd_ne n]; exact e b u n h
theorem SameBut.new {o : HO} {q : Addr} (e : SameBut p H H') (n : H' q = none) : SameBut p H (upd H' q o) := fun b u hb h => by
  have h' := e b u hb h
  rw [upd_ne (ne_of_none h' n)]; exact h'
theorem SameBut.of (e : Same H H') : SameBut p H H' := fun b o _ h => e b o h
theorem same_new {o : HO} {q : Addr} (e : Same H H') (n : H' q = none) : Same H (upd H' q o) := fun b u h => by
  have h' := e b u h
  rw [upd_ne (ne_of_none h' n)]; exact h'
/-- an object that was not there before may change -/
theorem same_put {o : HO} {q : Addr} (e : Same H H') (n : H q = none) : Same H (upd H' q o) := fun b u h => by
  rw [upd_ne (ne_of_none h n)]; exact e b u h
theorem SameBut.put' {o : HO} {q : Addr} (e : SameBut p H H') (n : H q = none) : SameBut p H (upd H' q o) := fun b u hb h => by
  rw [upd_ne (ne_of_none h n)]; exact e b u hb h
theorem free_of (e : Same H H') (h : H' p = none) : H p = none := e.free h
theorem free_new {o : HO} {q : Addr} (h : upd H p o q = none) : H q = none := by
  by_cases e : q = p
  · subst e; rw [upd_same] at h; cases h
  · rw [upd_ne e] at h; exact h
theorem ne_new {o : HO} {q : Addr} (h : upd H p o q = none) : q ≠ p := fun e => by
  subst e; rw [upd_same] at h; cases h
/-! slots at the start -/
def startE : List Str → List V → List (Option V)
  | [], vs => vs.map some
  | _ :: N, v :: vs => some v :: startE N vs
  | _ :: N, [] => none :: startE N []
theorem start_eq : ∀ (N : List Str) (vs : List V), L2.start N vs = startE N vs
  | [], vs => by simp [L2.start, startE]
  | n :: N, v :: vs => by
    have q := start_eq N vs
    unfold L2.start at q ⊢
    simp only [startE, ← q, List.map_cons, List.length_cons, Nat.add_sub_add_right, List.cons_append]
  | n :: N, [] => by
    have q := start_eq N []
    unfold L2.start at q ⊢
    simp only [startE, ← q, List.map_nil, List.length_cons, List.length_nil, Nat.sub_zero, List.nil_append, List.replicate_succ]
end
end R
end
section
set_option Elab.async false
set_option linter.all false
set_option maxRecDepth 100000
set_option maxHeartbeats 4000000
set_option pp.maxSteps 1500
set_option pp.deepTerms false
local macro_rules | `(tactic| walk_at "ne") => `(tactic| first
  | assumption | (apply Ne.symm; assumption)
  | exact R.ne_new (by assumption) | exact (R.ne_new (by assumption)).symm
  | exact L2.ne_of_none (by assumption) (by assumption) | exact (L2.ne_of_none (by assumption) (by assumption)).symm
  | exact L2.ne_of_none (by assumption) (R.free_new (by assumption)) | exact (L2.ne_of_none (by assumption) (R.free_new (by assumption))).symm)
local macro_rules | `(tactic| walk_at "at") => `(tactic| first
  | assumption | exact L2.upd_same
  | (refine R.sb (H := ?H) (p := ?p) ?e ?n ?h; (case e => assumption); (case n => walk_at "ne"); (case h => walk_at "at"))
  | (refine R.sm (H := ?H) ?e ?h; (case e => assumption); (case h => walk_at "at"))
  | (refine Eq.trans (L2.upd_ne ?_) ?_ <;> first | walk_at "ne" | walk_at "at"))
local macro_rules | `(tactic| walk_at "sqt") => `(tactic| first | assumption | (refine L2.SqT.of ?_; walk_at "at"))
local macro_rules | `(tactic| walk_at "ty") => `(tactic| first | exact R.tyN | exact R.tyB | exact R.tyI | exact R.tyS | (refine R.tyT (xs := ?xs) ?h; case h => walk_at "at") | (refine R.tyL (xs := ?xs) ?h; case h => walk_at "at"))
local macro_rules | `(tactic| walk_at "kit") => `(tactic| first | exact R.kit_NoneType_tuple | exact R.kit_NoneType_list | exact R.kit_NoneType_bool | exact R.kit_NoneType_str | exact R.kit_NoneType_int | exact R.kit_bool_tuple | exact R.kit_bool_list | exact R.kit_bool_bool | exact R.kit_bool_str | exact R.kit_bool_int | exact R.kit_int_tuple | exact R.kit_int_list | exact R.kit_int_bool | exact R.kit_int_str | exact R.kit_int_int | exact R.kit_str_tuple | exact R.kit_str_list | exact R.kit_str_bool | exact R.kit_str_str | exact R.kit_str_int | exact R.kit_tuple_tuple | exact R.kit_tuple_list | exact R.kit_tuple_bool | exact R.kit_tuple_str | exact R.kit_tuple_int | exact R.kit_list_tuple | exact R.kit_list_list | exact R.kit_list_bool | exact R.kit_list_str | exact R.kit_list_int)
local macro_rules | `(tactic| walk_at "sz") => `(tactic| first | assumption | (refine Nat.le_trans ?_ (show 1000 ≤ PySem.sizeLine by decide); omega) | decide)
local macro_rules | `(tactic| walk_at "szl") => `(tactic| first | assumption | exact Nat.le_of_lt (L2.small1000 (by omega)) | decide | decide +kernel)
local macro_rules | `(tactic| walk_at "ix") => `(tactic| first | rfl | (exact L2.atI_nat (by assumption)) | assumption)
local macro_rules | `(tactic| walk_at "cond") => `(tactic| first
  | exact Or.inl (by decide) | exact Or.inr (by decide) | exact Or.inl ⟨by omega, by omega⟩ | exact Or.inr ⟨by omega, by omega⟩
  | (constructor <;> omega) | (show _ ≠ _; omega) | decide | omega)
local macro_rules | `(tactic| walk_at "r1") => `(tactic| first
  | with_reducible refine R.seq ?_ | with_reducible refine R.asg ?_ | with_reducible refine R.ifs ?_ | with_reducible refine R.ret ?_ | with_reducible refine R.retN ?_ | with_reducible refine R.drop ?_ | with_reducible refine R.next ?_
  | with_reducible refine R.op ?_ | ((with_reducible refine R.var (v := ?v) ?h ?q); case h => rfl) | with_reducible refine R.c ?_ | with_reducible refine R.tst ?_ | with_reducible refine R.tb_ ?_ | with_reducible refine R.ex ?_
  | with_reducible refine R.i0 ?_ | with_reducible refine R.eqI ?_ | with_reducible refine R.neI ?_ | ((with_reducible refine R.ic ?_ ?_); · walk_at "cond") | with_reducible refine R.u0 ?_ | with_reducible refine R.un ?_
  | ((with_reducible refine R.eq ?_ ?_); · rfl) | ((with_reducible refine R.ne ?_ ?_); · rfl)
  | with_reducible refine R.and_ ?_ | with_reducible refine R.or_ ?_ | with_reducible refine R.not_ ?_ | with_reducible refine R.ife ?_ | with_reducible refine R.chain ?_
  | with_reducible refine R.cons ?_ | with_reducible refine R.nil ?_ | with_reducible refine R.call ?_ | with_reducible refine R.cb ?_ | with_reducible refine R.bm ?_
  | with_reducible refine R.gname ?_ | with_reducible refine R.gsub ?_ | with_reducible refine R.gnil ?_ | with_reducible refine R.gcons ?_ | with_reducible refine R.yes ?_
  | with_reducible refine R.int1 ?_ | ((with_reducible refine R.lenL (xs := ?xs) ?h ?q); case h => walk_at "at")
  | ((with_reducible refine R.ixL (xs := ?xs) (v := ?v) ?h ?e ?q); (case h => walk_at "at"); (case e => walk_at "ix"))
  | ((with_reducible refine R.setL (xs := ?xs) (n := ?n) ?h ?e ?q); (case h => walk_at "at"); (case e => rfl))
  | ((with_reducible refine R.append (xs := ?xs) ?h ?e ?q); (case h => walk_at "at"); (case e => walk_at "cond"))
  | with_reducible refine R.is_ ?_ | with_reducible refine R.isnot ?_ | with_reducible refine R.andV ?_ | with_reducible refine R.orV ?_ | with_reducible refine R.notV ?_
  | ((with_reducible refine R.isi (s := ?s) (b := ?b) ?ty ?h ?q); (case ty => walk_at "ty"); (case h => walk_at "kit"))
  | ((with_reducible refine R.addS ?h ?q); (case h => walk_at "sz")) | with_reducible refine R.max2 ?_ | with_reducible refine R.min2 ?_
  | ((with_reducible refine R.lenStr ?h ?q); (case h => walk_at "szl")) | ((with_reducible refine R.ixS (n := ?n) ?h ?e ?q); (case h => walk_at "szl"); (case e => walk_at "ix"))
  | ((with_reducible refine R.tyl (xs := ?xs) ?h ?q); (case h => walk_at "at")) | with_reducible refine R.itlist ?_ | with_reducible refine R.ittup ?_ | with_reducible refine R.m1 ?_ | with_reducible refine R.m1s ?_ | with_reducible refine R.leS ?_ | with_reducible refine R.itstr ?_ | with_reducible refine R.itstrE ?_ | with_reducible refine R.lc ?_ | with_reducible refine R.for_ ?_ | ((with_reducible refine R.all_ (bs := ?bs) ?h ?q); (case h => walk_at "at"))
  | with_reducible refine R.rng1 ?_ | ((with_reducible refine R.rngE ?h ?q); (case h => (constructor <;> omega)))
  | ((with_reducible refine R.lenT (xs := ?xs) ?h ?q); (case h => walk_at "sqt")) | ((with_reducible refine R.ixT (xs := ?xs) (v := ?v) ?h ?e ?q); (case h => walk_at "sqt"); (case e => walk_at "ix"))
  | ((refine R.itlE (xs := ?xs) ?h ?q); (case h => walk_at "at")) | ((refine R.ittE (xs := ?xs) ?h ?q); (case h => walk_at "at"))
  | with_reducible refine R.itT ?_ | with_reducible refine R.itF ?_ | with_reducible refine R.itNT ?_ | with_reducible refine R.itNF ?_
  | (with_reducible refine R.tup ?_) | (with_reducible refine R.lst ?_))
local macro_rules | `(tactic| walk_at "rd") => `(tactic| (repeat (first | walk_at "r1" | (dsimp only [Int.reduceToNat, List.set_cons_succ, List.set_cons_zero, List.length_cons, List.length_nil, List.nil_append, List.cons_append, List.append_nil]))))
local macro_rules | `(tactic| walk_at "go") => `(tactic| (rw [R.start_eq]; dsimp only [R.startE, List.map_nil]; walk_at "rd"))
namespace KN
open PySem L2 SX C8 R
def top (i : Nat) : Stmt := PySem.Challenge.pw_sayonce_k01_systems.main.body.getD i (.Pass ⟨0, 0, 0, 0⟩)
/-- no built-in that the program calls is the module's own -/
structure Zs (mg : Str → Option Value) : Prop where
  int : mg "int" = none
  len : mg "len" = none
  range : mg "range" = none
  isinstance : mg "isinstance" = none
  bool : mg "bool" = none
  str : mg "str" = none
  tuple : mg "tuple" = none
  list : mg "list" = none
  all : mg "all" = none
  max : mg "max" = none
  min : mg "min" = none
  enumerate : mg "enumerate" = none
structure PoolAt (H : Hp) (p l : Addr) : Prop where
  ex : ∃ (cs : List Int) (i d s : Int), H p = some (.lst [.ref l, .int i, .int d, .int s]) ∧ H l = some (.lst (cs.map V.int)) ∧ (∀ c ∈ cs, 0 ≤ c) ∧ 0 ≤ i ∧ 0 ≤ d ∧ 0 ≤ s ∧ s < 2147483647
  ne : l ≠ p
def spPool (K : PySem.W.Frag) : Sp := fun vs H Q _ => ∃ (a : Addr) (ns : List Int), vs = [.ref a] ∧ SqL K H a (ns.map V.int) ∧ ns.length ≤ 63 ∧
  ∀ H' p l, Same H H' → H p = none → H l = none → PoolAt H' p l → Q (.ref p) H'
def spTake : Sp := fun vs H Q _ => ∃ (p l : Addr) (m : Int), vs = [.ref p, .int m] ∧ PoolAt H p l ∧ 1 ≤ m ∧ m ≤ 1000000 ∧
  ∀ H' d, SameBut p H H' → PoolAt H' p l → 0 ≤ d → d < m → Q (.int d) H'
section
variable {P : Program} {w : World} {K : PySem.W.Frag} {mg : Str → Option Value} {base : Heap}
abbrev sPool : Stmt := top 17
theorem scPool : FnScope ["script", "cell"] ["script"] (fnScope sPool) := ⟨rfl, rfl, rfl, by decide +kernel, rfl, by decide +kernel, by decide +kernel⟩
abbrev sTake : Stmt := top 18
theorem scTake : FnScope ["pool", "many", "digit", "cell", "mixed"] ["pool", "many"] (fnScope sTake) := ⟨rfl, rfl, rfl, by decide +kernel, rfl, by decide +kernel, by decide +kernel⟩
theorem atI_mid {xs : List V} {i : Int} {v : V} (h0 : 0 ≤ i) (h : xs[i.toNat]? = some v) : atI xs i = some v := at_of (by omega) h
theorem fmod_lt {a m : Int} (h : 0 < m) : 0 ≤ a.fmod m ∧ a.fmod m < m := ⟨Int.fmod_nonneg_of_pos a h, Int.fmod_lt_of_pos a h⟩
theorem fdiv_nn {a m : Int} (h0 : 0 ≤ a) (h : 0 < m) : 0 ≤ a.fdiv m := by
  rw [Int.fdiv_eq_ediv_of_nonneg _ (by omega)]; exact Int.ediv_nonneg h0 (by omega)
theorem fdiv_pos {a m : Int} (h0 : m ≤ a) (h : 0 < m) : 0 < a.fdiv m := by
  rw [Int.fdiv_eq_ediv_of_nonneg _ (by omega)]
  have := (Int.le_ediv_iff_mul_le h).mpr (show 1 * m ≤ a by omega)
  omega
/-- the digit of a pool that has one -/
def spTake0 : Sp := fun vs H Q _ => ∃ (p l : Addr) (m i d s : Int), vs = [.ref p, .int m] ∧ H p = some (.lst [.ref l, .int i, .int d, .int s]) ∧ 0 < d ∧ 1 ≤ m ∧ m ≤ 1000000 ∧
  Q (.int (d.fmod m)) (upd H p (.lst [.ref l, .int i, .int (d.fdiv m), .int s]))
theorem c_pool (Z : Zs mg) {f : Addr} {fd : FuncData} (F : Def K mg "_law_pool" sPool f fd) (b : Binds K fd ["script"] []) : Cal P w K mg base 1 "_law_pool" (spPool K) [] := by
  refine cal0 F b .nil scPool (fun vs H Q E h => ?_) (fun cdv A outer s H vs Q E hr h => ?_)
  · obtain ⟨a, ns, rfl, _⟩ := h
    rfl
  · obtain ⟨a, ns, rfl, hS, hlen, k⟩ := h
    refine ⟨_, pss_one (ps_ret (pe_lst (pa_cons (pe_lc (own := [("cell", 1)]) (g := gName 1) (tt := tYes) rfl scPool.nd (kiL K (pv 0)) (blkOk_by (own := [("cell", 1)]) (N := ["script", "cell"]) (sc := fnScope sPool) (by decide +kernel)) (fun _ _ _ _ _ => (pg_name (i := 1) scPool.nd rfl (Or.inl rfl))) (fun _ _ _ _ _ => pts_nil) (fun _ _ _ _ _ => pe_ifExp (pt_cmpR op_ge (pv 1) pe_int (nomark _)) (pe_op op_mul pe_int (pv 1)) (pe_op op_sub (pe_op op_mul (pe_un un_neg pe_int) (pv 1)) pe_int))) (pa_cons pe_int (pa_cons pe_int (pa_cons pe_int pa_nil)))))), ?_⟩
    walk_at "go"
    refine ⟨a, rfl, ⟨_, hS⟩, fun D hD => lc_list (K := K) (a := a) (xs := ns.map V.int) (fun i H' => Same H H' ∧ ∃ cs : List Int, cs.length = i ∧ H' D = some (.lst (cs.map V.int)) ∧ ∀ c ∈ cs, 0 ≤ c)
      ⟨same_new (Same.refl H) hD, [], rfl, upd_same, fun c h => nomatch h⟩ (fun i H' _ hP => hP.1.seq hS) ?_ ?_⟩
    · rintro i x H' hi ⟨s0, cs, hc, hDc, hpos⟩
      obtain ⟨u, rfl⟩ : ∃ u, x = V.int u := by
        rw [List.getElem?_map] at hi
        cases e : ns[i]? with
        | none => rw [e] at hi; cases hi
        | some u => rw [e] at hi; exact ⟨u, (Option.some.inj hi).symm⟩
      have hi63 : i < ns.length := by
        have q := (List.getElem?_eq_some_iff.mp hi).1
        rwa [List.length_map] at q
      have fin : ∀ c : Int, 0 ≤ c → ∃ acc, H' D = some (.lst acc) ∧ acc.length < sizeLine ∧ Same H (upd H' D (.lst (acc ++ [V.int c]))) ∧ ∃ cs : List Int, cs.length = i + 1 ∧ upd H' D (.lst (acc ++ [V.int c])) D = some (.lst (cs.map V.int)) ∧ ∀ c ∈ cs, 0 ≤ c := by
        intro c h0
        refine ⟨_, hDc, small1000 (by rw [List.length_map]; omega), same_put s0 hD, cs ++ [c], by simp [hc], by rw [upd_same, List.map_append]; rfl, fun e he => ?_⟩
        rcases List.mem_append.mp he with q | q
        · exact hpos e q
        · rw [List.mem_singleton.mp q]; exact h0
      refine R.gname ⟨rfl, ?_⟩
      walk_at "rd"
      refine it (fun h1 => ?_) (fun h1 => ?_)
      · walk_at "rd"
        exact fin _ (by omega)
      · walk_at "rd"
        exact fin _ (by omega)
    · rintro H' ⟨s0, cs, hc, hDc, hpos⟩
      walk_at "rd"
      refine ⟨by decide, fun p hp => ?_⟩
      have dp : D ≠ p := ne_of_none hDc hp
      exact k _ p D (same_new s0 hp) (s0.free hp) hD ⟨⟨cs, 0, 0, 17, upd_same, by rw [upd_ne dp]; exact hDc, hpos, by decide, by decide, by decide, by decide⟩, dp⟩
theorem c_take0 (Z : Zs mg) {f : Addr} {fd : FuncData} (F : Def K mg "_law_take" sTake f fd) (b : Binds K fd ["pool", "many"] []) : Cal P w K mg base 1 "_law_take" spTake0 [] := by
  refine cal0 F b .nil scTake (fun vs H Q E h => ?_) (fun cdv A outer s H vs Q E hr h => ?_)
  · obtain ⟨p, l, m, i, d, s, rfl, _⟩ := h
    rfl
  · obtain ⟨p, l, m, i, d, s, rfl, hp, hd, hm, hm2, k⟩ := h
    refine ⟨_, pss_cons (ps_if (pt_cmpR op_gt (pe_ix (kIxL K) (pv 0) pe_int (fun _ _ => rfl)) pe_int (nomark _))
        (pss_cons (ps_set (i := 2) scTake.nd rfl (Or.inl rfl) (pe_op op_modN (pe_callTy cInt (by rfl) Z.int (by decide +kernel) (pa_cons (pe_ix (kIxL K) (pv 0) pe_int (fun _ _ => rfl)) pa_nil)) (pv 1)))
      (pss_cons (ps_asg (pe_op op_fdivN (pe_ix (kIxL K) (pv 0) pe_int (fun _ _ => rfl)) (pv 1)) (pg_sub (pv 0) pe_int set_list))
      (pss_one (ps_ret (pv 2)))))
        (pss_nil))
      (pss_cons (ps_never)
      (pss_cons (ps_never)
      (pss_cons (ps_never)
      (pss_cons (ps_never)
      (pss_cons (ps_never)
      (pss_cons (ps_never)
      (pss_one (ps_never)))))))), ?_⟩
    walk_at "go"
    refine itY hd ?_
    walk_at "rd"
    exact k
theorem c_take (Z : Zs mg) {f : Addr} {fd : FuncData} (F : Def K mg "_law_take" sTake f fd) (b : Binds K fd ["pool", "many"] []) : Cal P w K mg base 2 "_law_take" spTake [] := by
  have c_take : Cal P w K mg base 1 "_law_take" spTake0 [] := c_take0 Z F b
  refine cal0 F b .nil scTake (fun vs H Q E h => ?_) (fun cdv A outer s H vs Q E hr h => ?_)
  · obtain ⟨p, l, m, rfl, _⟩ := h
    rfl
  · obtain ⟨p, l, m, rfl, ⟨⟨cs, i, d, s, hp, hl, hcs, hi, hd, hs, hs2⟩, hne⟩, hm, hm2, k⟩ := h
    refine ⟨_, pss_cons (ps_if (pt_cmpR op_gt (pe_ix (kIxL K) (pv 0) pe_int (fun _ _ => rfl)) pe_int (nomark _))
        (pss_cons (ps_set (i := 2) scTake.nd rfl (Or.inl rfl) (pe_op op_modN (pe_callTy cInt (by rfl) Z.int (by decide +kernel) (pa_cons (pe_ix (kIxL K) (pv 0) pe_int (fun _ _ => rfl)) pa_nil)) (pv 1)))
      (pss_cons (ps_asg (pe_op op_fdivN (pe_ix (kIxL K) (pv 0) pe_int (fun _ _ => rfl)) (pv 1)) (pg_sub (pv 0) pe_int set_list))
      (pss_one (ps_ret (pv 2)))))
        (pss_nil))
      (pss_cons (ps_set (i := 3) scTake.nd rfl (Or.inl rfl) pe_int)
      (pss_cut (ps_if (pt_cmpR op_lt (pe_ix (kIxL K) (pv 0) pe_int (fun _ _ => rfl)) (pe_callB (kLen K) (by rfl) Z.len PySem.boot_len (pa_cons (pe_ix (kIxL K) (pv 0) pe_int (fun _ _ => rfl)) pa_nil)) (nomark _))
        (pss_one (ps_set (i := 3) scTake.nd rfl (Or.inl rfl) (pe_ix (kIxL K) (pe_ix (kIxL K) (pv 0) pe_int (fun _ _ => rfl)) (pe_ix (kIxL K) (pv 0) pe_int (fun _ _ => rfl)) (fun _ _ => rfl))))
        (pss_nil))
      (pss_cons (ps_asg (pe_op op_add (pe_ix (kIxL K) (pv 0) pe_int (fun _ _ => rfl)) pe_int) (pg_sub (pv 0) pe_int set_list))
      (pss_cons (ps_if (pt_cmpR op_ge (pv 3) (pe_op op_pow pe_int pe_int) (nomark _))
        (pss_cons (ps_asg (pe_op op_fdivN (pv 3) pe_int) (pg_sub (pv 0) pe_int set_list))
      (pss_one (ps_ret (pe_c c_take hr (by omega) (by rfl) (pa_cons (pv 0) (pa_cons (pv 1) pa_nil))))))
        (pss_nil))
      (pss_cons (ps_asg (pe_op op_modN (pe_callTy cInt (by rfl) Z.int (by decide +kernel) (pa_cons (pe_op op_add (pe_op op_add (pe_op op_mul (pe_ix (kIxL K) (pv 0) pe_int (fun _ _ => rfl)) pe_int) (pe_op op_mul (pv 3) pe_int)) (pe_op op_mul (pe_ix (kIxL K) (pv 0) pe_int (fun _ _ => rfl)) pe_int)) pa_nil)) pe_int) (pg_sub (pv 0) pe_int set_list))
      (pss_cons (ps_set (i := 4) scTake.nd rfl (Or.inl rfl) (pe_op op_modN (pe_callTy cInt (by rfl) Z.int (by decide +kernel) (pa_cons (pe_op op_add (pe_op op_add (pe_op op_mul (pe_ix (kIxL K) (pv 0) pe_int (fun _ _ => rfl)) (pe_ix (kIxL K) (pv 0) pe_int (fun _ _ => rfl))) (pe_op op_mul (pe_ix (kIxL K) (pv 0) pe_int (fun _ _ => rfl)) pe_int)) pe_int) pa_nil)) pe_int))
      (pss_one (ps_ret (pe_op op_modN (pe_callTy cInt (by rfl) Z.int (by decide +kernel) (pa_cons (pe_op op_fdivN (pv 4) pe_int) pa_nil)) (pv 1)))))))))), ?_⟩
    walk_at "go"
    refine it (fun h1 => ?_) (fun h1 => ?_)
    · walk_at "rd"
      have z := fmod_lt (a := d) (m := m) (by omega)
      exact k _ _ (SameBut.refl.put) ⟨⟨cs, i, _, s, upd_same, by rw [upd_ne hne]; exact hl, hcs, hi, fdiv_nn hd (by omega), hs, hs2⟩, hne⟩ z.1 z.2
    · walk_at "rd"
      refine ⟨fun σ' H' => H' = H ∧ ∃ c : Int, 0 ≤ c ∧ σ' = [some (.ref p), some (.int m), none, some (.int c), none], ?_, ?_⟩
      · walk_at "rd"
        refine it (fun h2 => ?_) (fun h2 => ?_)
        · rw [List.length_map] at h2
          have hlt : i.toNat < cs.length := by omega
          have e : atI (cs.map V.int) i = some (.int cs[i.toNat]) := atI_mid hi (by rw [List.getElem?_map, List.getElem?_eq_getElem hlt]; rfl)
          walk_at "rd"
          exact ⟨rfl, _, hcs _ (List.getElem_mem hlt), rfl⟩
        · walk_at "rd"
          exact ⟨rfl, 0, by decide, rfl⟩
      · rintro σ' H' ⟨rfl, c, hc, rfl⟩
        walk_at "rd"
        refine it (fun h3 => ?_) (fun h3 => ?_)
        · have e18 : (10 : Int) ^ 18 = 1000000000000000000 := by decide
          rw [e18] at h3
          walk_at "rd"
          have hd2 : 0 < c.fdiv 2 := fdiv_pos (by omega) (by omega)
          have z := fmod_lt (a := c.fdiv 2) (m := m) (by omega)
          exact ⟨p, l, m, _, _, _, rfl, upd_same, hd2, hm, hm2, k _ _ SameBut.refl.put.put.put ⟨⟨cs, i + 1, _, s, upd_same, by rw [upd_ne hne, upd_ne hne, upd_ne hne]; exact hl, hcs, by omega, fdiv_nn (by omega) (by omega), hs, hs2⟩, hne⟩ z.1 z.2⟩
        · walk_at "rd"
          have z := fmod_lt (a := s * 48271 + c * 69621 + (i + 1) * 613) (m := 2147483647) (by decide)
          generalize (s * 48271 + c * 69621 + (i + 1) * 613).fmod 2147483647 = g at z ⊢
          walk_at "rd"
          have z2 := fmod_lt (a := ((g * g + g * 7919 + 104729).fmod 1000000007).fdiv 3) (m := m) (by omega)
          exact k _ _ SameBut.refl.put.put ⟨⟨cs, i + 1, d, g, upd_same, by rw [upd_ne hne, upd_ne hne]; exact hl, hcs, by omega, hd, z.1, z.2⟩, hne⟩ z2.1 z2.2
end
end KN
end
section
set_option Elab.async false
set_option linter.all false
set_option maxRecDepth 100000
set_option maxHeartbeats 4000000
set_option pp.maxSteps 1500
set_option pp.deepTerms false
local macro_rules | `(tactic| walk_at "ne") => `(tactic| first
  | assumption | (apply Ne.symm; assumption)
  | exact R.ne_new (by assumption) | exact (R.ne_new (by assumption)).symm
  | exact L2.ne_of_none (by assumption) (by assumption) | exact (L2.ne_of_none (by assumption) (by assumption)).symm
  | exact L2.ne_of_none (by assumption) (R.free_new (by assumption)) | exact (L2.ne_of_none (by assumption) (R.free_new (by assumption))).symm)
local macro_rules | `(tactic| walk_at "at") => `(tactic| first
  | assumption | exact L2.upd_same
  | (refine R.sb (H := ?H) (p := ?p) ?e ?n ?h; (case e => assumption); (case n => walk_at "ne"); (case h => walk_at "at"))
  | (refine R.sm (H := ?H) ?e ?h; (case e => assumption); (case h => walk_at "at"))
  | (refine Eq.trans (L2.upd_ne ?_) ?_ <;> first | walk_at "ne" | walk_at "at"))
local macro_rules | `(tactic| walk_at "sqt") => `(tactic| first | assumption | (refine L2.SqT.of ?_; walk_at "at"))
local macro_rules | `(tactic| walk_at "ty") => `(tactic| first | exact R.tyN | exact R.tyB | exact R.tyI | exact R.tyS | (refine R.tyT (xs := ?xs) ?h; case h => walk_at "at") | (refine R.tyL (xs := ?xs) ?h; case h => walk_at "at"))
local macro_rules | `(tactic| walk_at "kit") => `(tactic| first | exact R.kit_NoneType_tuple | exact R.kit_NoneType_list | exact R.kit_NoneType_bool | exact R.kit_NoneType_str | exact R.kit_NoneType_int | exact R.kit_bool_tuple | exact R.kit_bool_list | exact R.kit_bool_bool | exact R.kit_bool_str | exact R.kit_bool_int | exact R.kit_int_tuple | exact R.kit_int_list | exact R.kit_int_bool | exact R.kit_int_str | exact R.kit_int_int | exact R.kit_str_tuple | exact R.kit_str_list | exact R.kit_str_bool | exact R.kit_str_str | exact R.kit_str_int | exact R.kit_tuple_tuple | exact R.kit_tuple_list | exact R.kit_tuple_bool | exact R.kit_tuple_str | exact R.kit_tuple_int | exact R.kit_list_tuple | exact R.kit_list_list | exact R.kit_list_bool | exact R.kit_list_str | exact R.kit_list_int)
local macro_rules | `(tactic| walk_at "sz") => `(tactic| first | assumption | (refine Nat.le_trans ?_ (show 1000 ≤ PySem.sizeLine by decide); omega) | decide)
local macro_rules | `(tactic| walk_at "szl") => `(tactic| first | assumption | exact Nat.le_of_lt (L2.small1000 (by omega)) | decide | decide +kernel)
local macro_rules | `(tactic| walk_at "ix") => `(tactic| first | rfl | (exact L2.atI_nat (by assumption)) | assumption)
local macro_rules | `(tactic| walk_at "cond") => `(tactic| first
  | exact Or.inl (by decide) | exact Or.inr (by decide) | exact Or.inl ⟨by omega, by omega⟩ | exact Or.inr ⟨by omega, by omega⟩
  | (constructor <;> omega) | (show _ ≠ _; omega) | decide | omega)
local macro_rules | `(tactic| walk_at "r1") => `(tactic| first
  | with_reducible refine R.seq ?_ | with_reducible refine R.asg ?_ | with_reducible refine R.ifs ?_ | with_reducible refine R.ret ?_ | with_reducible refine R.retN ?_ | with_reducible refine R.drop ?_ | with_reducible refine R.next ?_
  | with_reducible refine R.op ?_ | ((with_reducible refine R.var (v := ?v) ?h ?q); case h => rfl) | with_reducible refine R.c ?_ | with_reducible refine R.tst ?_ | with_reducible refine R.tb_ ?_ | with_reducible refine R.ex ?_
  | with_reducible refine R.i0 ?_ | with_reducible refine R.eqI ?_ | with_reducible refine R.neI ?_ | ((with_reducible refine R.ic ?_ ?_); · walk_at "cond") | with_reducible refine R.u0 ?_ | with_reducible refine R.un ?_
  | ((with_reducible refine R.eq ?_ ?_); · rfl) | ((with_reducible refine R.ne ?_ ?_); · rfl)
  | with_reducible refine R.and_ ?_ | with_reducible refine R.or_ ?_ | with_reducible refine R.not_ ?_ | with_reducible refine R.ife ?_ | with_reducible refine R.chain ?_
  | with_reducible refine R.cons ?_ | with_reducible refine R.nil ?_ | with_reducible refine R.call ?_ | with_reducible refine R.cb ?_ | with_reducible refine R.bm ?_
  | with_reducible refine R.gname ?_ | with_reducible refine R.gsub ?_ | with_reducible refine R.gnil ?_ | with_reducible refine R.gcons ?_ | with_reducible refine R.yes ?_
  | with_reducible refine R.int1 ?_ | ((with_reducible refine R.lenL (xs := ?xs) ?h ?q); case h => walk_at "at")
  | ((with_reducible refine R.ixL (xs := ?xs) (v := ?v) ?h ?e ?q); (case h => walk_at "at"); (case e => walk_at "ix"))
  | ((with_reducible refine R.setL (xs := ?xs) (n := ?n) ?h ?e ?q); (case h => walk_at "at"); (case e => rfl))
  | ((with_reducible refine R.append (xs := ?xs) ?h ?e ?q); (case h => walk_at "at"); (case e => walk_at "cond"))
  | with_reducible refine R.is_ ?_ | with_reducible refine R.isnot ?_ | with_reducible refine R.andV ?_ | with_reducible refine R.orV ?_ | with_reducible refine R.notV ?_
  | ((with_reducible refine R.isi (s := ?s) (b := ?b) ?ty ?h ?q); (case ty => walk_at "ty"); (case h => walk_at "kit"))
  | ((with_reducible refine R.addS ?h ?q); (case h => walk_at "sz")) | with_reducible refine R.max2 ?_ | with_reducible refine R.min2 ?_
  | ((with_reducible refine R.lenStr ?h ?q); (case h => walk_at "szl")) | ((with_reducible refine R.ixS (n := ?n) ?h ?e ?q); (case h => walk_at "szl"); (case e => walk_at "ix"))
  | ((with_reducible refine R.tyl (xs := ?xs) ?h ?q); (case h => walk_at "at")) | with_reducible refine R.itlist ?_ | with_reducible refine R.ittup ?_ | with_reducible refine R.m1 ?_ | with_reducible refine R.m1s ?_ | with_reducible refine R.leS ?_ | with_reducible refine R.itstr ?_ | with_reducible refine R.itstrE ?_ | with_reducible refine R.lc ?_ | with_reducible refine R.for_ ?_ | ((with_reducible refine R.all_ (bs := ?bs) ?h ?q); (case h => walk_at "at"))
  | with_reducible refine R.rng1 ?_ | ((with_reducible refine R.rngE ?h ?q); (case h => (constructor <;> omega)))
  | ((with_reducible refine R.lenT (xs := ?xs) ?h ?q); (case h => walk_at "sqt")) | ((with_reducible refine R.ixT (xs := ?xs) (v := ?v) ?h ?e ?q); (case h => walk_at "sqt"); (case e => walk_at "ix"))
  | ((refine R.itlE (xs := ?xs) ?h ?q); (case h => walk_at "at")) | ((refine R.ittE (xs := ?xs) ?h ?q); (case h => walk_at "at"))
  | with_reducible refine R.itT ?_ | with_reducible refine R.itF ?_ | with_reducible refine R.itNT ?_ | with_reducible refine R.itNF ?_
  | (with_reducible refine R.tup ?_) | (with_reducible refine R.lst ?_))
local macro_rules | `(tactic| walk_at "rd") => `(tactic| (repeat (first | walk_at "r1" | (dsimp only [Int.reduceToNat, List.set_cons_succ, List.set_cons_zero, List.length_cons, List.length_nil, List.nil_append, List.cons_append, List.append_nil]))))
local macro_rules | `(tactic| walk_at "go") => `(tactic| (rw [R.start_eq]; dsimp only [R.startE, List.map_nil]; walk_at "rd"))
namespace KN
open PySem L2 SX C8 R
section
variable {P : Program} {w : World} {K : PySem.W.Frag} {mg : Str → Option Value} {base : Heap}
abbrev sIsint : Stmt := top 21
theorem scIsint : FnScope ["actual"] ["actual"] (fnScope sIsint) := ⟨rfl, rfl, rfl, by decide +kernel, rfl, by decide +kernel, by decide +kernel⟩
abbrev sSame : Stmt := top 22
theorem scSame : FnScope ["actual", "due", "k"] ["actual", "due"] (fnScope sSame) := ⟨rfl, rfl, rfl, by decide +kernel, rfl, by decide +kernel, by decide +kernel⟩
/-- one value that is no object -/
inductive Scal : V → Prop
  | non : Scal .non
  | bl (b : Bool) : Scal (.bl b)
  | int (i : Int) : Scal (.int i)
  | str (w : Str) : Scal (.str w)
/-- equal data, of depth less than n -/
def Eqd (H : Hp) : Nat → V → V → Prop
  | 0, _, _ => False
  | n + 1, x, y => (x = y ∧ Scal x) ∨ (∃ a b xs ys, x = .ref a ∧ y = .ref b ∧ H a = some (.tup xs) ∧ H b = some (.tup ys) ∧ xs.length = ys.length ∧ xs.length ≤ 1000 ∧ ∀ (k : Nat) (u v : V), xs[k]? = some u → ys[k]? = some v → Eqd H n u v) ∨
      ∃ a b xs ys, x = .ref a ∧ y = .ref b ∧ H a = some (.lst xs) ∧ H b = some (.lst ys) ∧ xs.length = ys.length ∧ xs.length ≤ 1000 ∧ ∀ (k : Nat) (u v : V), xs[k]? = some u → ys[k]? = some v → Eqd H n u v
theorem Eqd.same {H H' : Hp} (s : Same H H') : ∀ n x y, Eqd H n x y → Eqd H' n x y
  | 0, _, _, h => (h : False).elim
  | n + 1, x, y, h => by
    rcases h with h | ⟨a, b, xs, ys, h1, h2, h3, h4, h5, h6, h7⟩ | ⟨a, b, xs, ys, h1, h2, h3, h4, h5, h6, h7⟩
    · exact .inl h
    · exact .inr (.inl ⟨a, b, xs, ys, h1, h2, s _ _ h3, s _ _ h4, h5, h6, fun k u v p q => Eqd.same s n _ _ (h7 k u v p q)⟩)
    · exact .inr (.inr ⟨a, b, xs, ys, h1, h2, s _ _ h3, s _ _ h4, h5, h6, fun k u v p q => Eqd.same s n _ _ (h7 k u v p q)⟩)
def spIsint : Sp := fun vs H Q _ => ∃ i : Int, vs = [.int i] ∧ Q (.bl true) H
def spSame (n : Nat) : Sp := fun vs H Q _ => ∃ x y, vs = [x, y] ∧ Eqd H n x y ∧ ∀ H', Same H H' → Q (.bl true) H'
theorem c_isint (Z : Zs mg) {f : Addr} {fd : FuncData} (F : Def K mg "_law_is_integer" sIsint f fd) (b : Binds K fd ["actual"] []) : Cal P w K mg base 1 "_law_is_integer" spIsint [] := by
  refine cal0 F b .nil scIsint (fun vs H Q E h => ?_) (fun cdv A outer s H vs Q E hr h => ?_)
  · obtain ⟨i, rfl, _⟩ := h
    rfl
  · obtain ⟨i, rfl, k⟩ := h
    refine ⟨_, pss_one (ps_ret (pe_and (pe_callB (kIsi K) (by rfl) Z.isinstance (by decide +kernel) (pa_cons (pv 0) (pa_cons (pe_bltn (v := .ty "int") (by rfl) Z.int (by decide +kernel) rfl) pa_nil))) (pe_one (pe_not (pe_callB (kIsi K) (by rfl) Z.isinstance (by decide +kernel) (pa_cons (pv 0) (pa_cons (pe_bltn (v := .ty "bool") (by rfl) Z.bool (by decide +kernel) rfl) pa_nil))))))), ?_⟩
    walk_at "go"
    exact k
theorem c_same (Z : Zs mg) (c_is_integer : Cal P w K mg base 1 "_law_is_integer" spIsint []) {f : Addr} {fd : FuncData} (F : Def K mg "_law_same" sSame f fd) (b : Binds K fd ["actual", "due"] []) : ∀ n, Cal P w K mg base (n + 2) "_law_same" (spSame n) []
  | 0 => by
    refine cal0 F b .nil scSame (fun vs H Q E h => ?_) (fun cdv A outer s H vs Q E hr h => ?_)
    · obtain ⟨x, y, _, h, _⟩ := h
      exact h.elim
    · obtain ⟨x, y, _, h, _⟩ := h
      exact h.elim
  | n + 1 => by
    have c_same := c_same Z c_is_integer F b n
    refine cal0 F b .nil scSame (fun vs H Q E h => ?_) (fun cdv A outer s H vs Q E hr h => ?_)
    · obtain ⟨x, y, rfl, _⟩ := h
      rfl
    · obtain ⟨x, y, rfl, h, k⟩ := h
      refine ⟨_, pss_cons (ps_if (pt_val (pe_callB (kIsi K) (by rfl) Z.isinstance (by decide +kernel) (pa_cons (pv 1) (pa_cons (pe_bltn (v := .ty "tuple") (by rfl) Z.tuple (by decide +kernel) rfl) pa_nil))))
        (pss_cons (ps_if (PW.pt (pw_or (pt_not (pt_val (pe_callB (kIsi K) (by rfl) Z.isinstance (by decide +kernel) (pa_cons (pv 0) (pa_cons (pe_bltn (v := .ty "tuple") (by rfl) Z.tuple (by decide +kernel) rfl) pa_nil))))) (pw_or1 (pt_cmpR op_ne (pe_callB (kLen K) (by rfl) Z.len PySem.boot_len (pa_cons (pv 0) pa_nil)) (pe_callB (kLen K) (by rfl) Z.len PySem.boot_len (pa_cons (pv 1) pa_nil)) (nomark _)))))
        (pss_one (ps_ret pe_bl))
        (pss_nil))
      (pss_one (ps_ret (pe_callB (kAll K) (by rfl) Z.all (by decide +kernel) (pa_cons (pe_lc (own := [("k", 2)]) (g := gName 2) (tt := tYes) rfl scSame.nd (pi_range1 (by rfl) Z.range (pa_cons (pe_callB (kLen K) (by rfl) Z.len PySem.boot_len (pa_cons (pv 1) pa_nil)) pa_nil)) (blkOk_by (own := [("k", 2)]) (N := ["actual", "due", "k"]) (sc := fnScope sSame) (by decide +kernel)) (fun _ _ _ _ _ => (pg_name (i := 2) scSame.nd rfl (Or.inl rfl))) (fun _ _ _ _ _ => pts_nil) (fun _ _ _ _ _ => pe_c c_same hr (by omega) (by rfl) (pa_cons (pe_ix (kIxT K) (pv 0) (pv 2) (fun _ _ => rfl)) (pa_cons (pe_ix (kIxT K) (pv 1) (pv 2) (fun _ _ => rfl)) pa_nil)))) pa_nil)))))
        (pss_nil))
      (pss_cons (ps_if (pt_val (pe_callB (kIsi K) (by rfl) Z.isinstance (by decide +kernel) (pa_cons (pv 1) (pa_cons (pe_bltn (v := .ty "list") (by rfl) Z.list (by decide +kernel) rfl) pa_nil))))
        (pss_cons (ps_if (PW.pt (pw_or (pt_not (pt_val (pe_callB (kIsi K) (by rfl) Z.isinstance (by decide +kernel) (pa_cons (pv 0) (pa_cons (pe_bltn (v := .ty "list") (by rfl) Z.list (by decide +kernel) rfl) pa_nil))))) (pw_or1 (pt_cmpR op_ne (pe_callB (kLen K) (by rfl) Z.len PySem.boot_len (pa_cons (pv 0) pa_nil)) (pe_callB (kLen K) (by rfl) Z.len PySem.boot_len (pa_cons (pv 1) pa_nil)) (nomark _)))))
        (pss_one (ps_ret pe_bl))
        (pss_nil))
      (pss_one (ps_ret (pe_callB (kAll K) (by rfl) Z.all (by decide +kernel) (pa_cons (pe_lc (own := [("k", 2)]) (g := gName 2) (tt := tYes) rfl scSame.nd (pi_range1 (by rfl) Z.range (pa_cons (pe_callB (kLen K) (by rfl) Z.len PySem.boot_len (pa_cons (pv 1) pa_nil)) pa_nil)) (blkOk_by (own := [("k", 2)]) (N := ["actual", "due", "k"]) (sc := fnScope sSame) (by decide +kernel)) (fun _ _ _ _ _ => (pg_name (i := 2) scSame.nd rfl (Or.inl rfl))) (fun _ _ _ _ _ => pts_nil) (fun _ _ _ _ _ => pe_c c_same hr (by omega) (by rfl) (pa_cons (pe_ix (kIxL K) (pv 0) (pv 2) (fun _ _ => rfl)) (pa_cons (pe_ix (kIxL K) (pv 1) (pv 2) (fun _ _ => rfl)) pa_nil)))) pa_nil)))))
        (pss_nil))
      (pss_cons (ps_if (pt_cmpR oIs (pv 1) pe_non (nomark _))
        (pss_one (ps_ret (pe_cmpR oIs (pv 0) pe_non (nomark _))))
        (pss_nil))
      (pss_cons (ps_if (pt_val (pe_callB (kIsi K) (by rfl) Z.isinstance (by decide +kernel) (pa_cons (pv 1) (pa_cons (pe_bltn (v := .ty "bool") (by rfl) Z.bool (by decide +kernel) rfl) pa_nil))))
        (pss_one (ps_ret (pe_and (pe_callB (kIsi K) (by rfl) Z.isinstance (by decide +kernel) (pa_cons (pv 0) (pa_cons (pe_bltn (v := .ty "bool") (by rfl) Z.bool (by decide +kernel) rfl) pa_nil))) (pe_one (pe_cmpR op_eq (pv 0) (pv 1) (nomark _))))))
        (pss_nil))
      (pss_cons (ps_if (pt_val (pe_callB (kIsi K) (by rfl) Z.isinstance (by decide +kernel) (pa_cons (pv 1) (pa_cons (pe_bltn (v := .ty "str") (by rfl) Z.str (by decide +kernel) rfl) pa_nil))))
        (pss_one (ps_ret (pe_and (pe_callB (kIsi K) (by rfl) Z.isinstance (by decide +kernel) (pa_cons (pv 0) (pa_cons (pe_bltn (v := .ty "str") (by rfl) Z.str (by decide +kernel) rfl) pa_nil))) (pe_one (pe_cmpR op_eq (pv 0) (pv 1) (nomark _))))))
        (pss_nil))
      (pss_one (ps_ret (pe_and (pe_c c_is_integer hr (by omega) (by rfl) (pa_cons (pv 0) pa_nil)) (pe_one (pe_cmpR op_eq (pv 0) (pv 1) (nomark _)))))))))), ?_⟩
      rcases h with ⟨rfl, h⟩ | ⟨a, b, xs, ys, rfl, rfl, ha, hb, hl, hz, he⟩ | ⟨a, b, xs, ys, rfl, rfl, ha, hb, hl, hz, he⟩
      · cases h with
        | non =>
          walk_at "go"
          refine itY rfl ?_
          walk_at "rd"
          exact dT rfl (k _ (Same.refl H))
        | bl v =>
          walk_at "go"
          refine itN (fun z => nomatch z) ?_
          walk_at "rd"
          exact dT rfl (k _ (Same.refl H))
        | int v =>
          walk_at "go"
          refine itN (fun z => nomatch z) ?_
          walk_at "rd"
          refine ⟨v, rfl, ?_⟩
          walk_at "rd"
          exact dT rfl (k _ (Same.refl H))
        | str v =>
          walk_at "go"
          refine itN (fun z => nomatch z) ?_
          walk_at "rd"
          exact dT rfl (k _ (Same.refl H))
      · walk_at "go"
        refine itn (fun z => absurd (by rw [hl]) z) (fun _ => ?_)
        walk_at "rd"
        intro D hD
        refine lc_range (lo := 0) (n := (ys.length : Int).toNat) (fun i H' => Same H H' ∧ H' D = some (.lst ((List.replicate i true).map V.bl))) ⟨same_new (Same.refl H) hD, upd_same⟩ ?_ ?_
        · rintro i H' hi ⟨s0, hDc⟩
          have hy : i < ys.length := by omega
          have hx : i < xs.length := by omega
          have ha' := s0 _ _ ha
          have hb' := s0 _ _ hb
          have ex : xs[i]? = some xs[i] := List.getElem?_eq_getElem hx
          have ey : ys[i]? = some ys[i] := List.getElem?_eq_getElem hy
          refine R.gname ⟨rfl, ?_⟩
          rw [Int.zero_add]
          walk_at "rd"
          refine ⟨_, _, rfl, Eqd.same s0 _ _ _ (he i _ _ ex ey), fun H2 s2 => ⟨_, s2 _ _ hDc, small1000 (by rw [List.length_map, List.length_replicate]; omega), same_put (s0.trans s2) hD, ?_⟩⟩
          rw [upd_same, List.replicate_succ', List.map_append]
          rfl
        · rintro H' ⟨s0, hDc⟩
          walk_at "rd"
          rw [all_rep]
          exact k _ s0
      · walk_at "go"
        refine itn (fun z => absurd (by rw [hl]) z) (fun _ => ?_)
        walk_at "rd"
        intro D hD
        refine lc_range (lo := 0) (n := (ys.length : Int).toNat) (fun i H' => Same H H' ∧ H' D = some (.lst ((List.replicate i true).map V.bl))) ⟨same_new (Same.refl H) hD, upd_same⟩ ?_ ?_
        · rintro i H' hi ⟨s0, hDc⟩
          have hy : i < ys.length := by omega
          have hx : i < xs.length := by omega
          have ha' := s0 _ _ ha
          have hb' := s0 _ _ hb
          have ex : xs[i]? = some xs[i] := List.getElem?_eq_getElem hx
          have ey : ys[i]? = some ys[i] := List.getElem?_eq_getElem hy
          refine R.gname ⟨rfl, ?_⟩
          rw [Int.zero_add]
          walk_at "rd"
          refine ⟨_, _, rfl, Eqd.same s0 _ _ _ (he i _ _ ex ey), fun H2 s2 => ⟨_, s2 _ _ hDc, small1000 (by rw [List.length_map, List.length_replicate]; omega), same_put (s0.trans s2) hD, ?_⟩⟩
          rw [upd_same, List.replicate_succ', List.map_append]
          rfl
        · rintro H' ⟨s0, hDc⟩
          walk_at "rd"
          rw [all_rep]
          exact k _ s0
end
end KN
end
section
set_option Elab.async false
set_option linter.all false
set_option maxRecDepth 100000
set_option maxHeartbeats 4000000
set_option pp.maxSteps 1500
set_option pp.deepTerms false
local macro_rules | `(tactic| walk_at "ne") => `(tactic| first
  | assumption | (apply Ne.symm; assumption)
  | exact R.ne_new (by assumption) | exact (R.ne_new (by assumption)).symm
  | exact L2.ne_of_none (by assumption) (by assumption) | exact (L2.ne_of_none (by assumption) (by assumption)).symm
  | exact L2.ne_of_none (by assumption) (R.free_new (by assumption)) | exact (L2.ne_of_none (by assumption) (R.free_new (by assumption))).symm)
local macro_rules | `(tactic| walk_at "at") => `(tactic| first
  | assumption | exact L2.upd_same
  | (refine R.sb (H := ?H) (p := ?p) ?e ?n ?h; (case e => assumption); (case n => walk_at "ne"); (case h => walk_at "at"))
  | (refine R.sm (H := ?H) ?e ?h; (case e => assumption); (case h => walk_at "at"))
  | (refine Eq.trans (L2.upd_ne ?_) ?_ <;> first | walk_at "ne" | walk_at "at"))
local macro_rules | `(tactic| walk_at "sqt") => `(tactic| first | assumption | (refine L2.SqT.of ?_; walk_at "at"))
local macro_rules | `(tactic| walk_at "ty") => `(tactic| first | exact R.tyN | exact R.tyB | exact R.tyI | exact R.tyS | (refine R.tyT (xs := ?xs) ?h; case h => walk_at "at") | (refine R.tyL (xs := ?xs) ?h; case h => walk_at "at"))
local macro_rules | `(tactic| walk_at "kit") => `(tactic| first | exact R.kit_NoneType_tuple | exact R.kit_NoneType_list | exact R.kit_NoneType_bool | exact R.kit_NoneType_str | exact R.kit_NoneType_int | exact R.kit_bool_tuple | exact R.kit_bool_list | exact R.kit_bool_bool | exact R.kit_bool_str | exact R.kit_bool_int | exact R.kit_int_tuple | exact R.kit_int_list | exact R.kit_int_bool | exact R.kit_int_str | exact R.kit_int_int | exact R.kit_str_tuple | exact R.kit_str_list | exact R.kit_str_bool | exact R.kit_str_str | exact R.kit_str_int | exact R.kit_tuple_tuple | exact R.kit_tuple_list | exact R.kit_tuple_bool | exact R.kit_tuple_str | exact R.kit_tuple_int | exact R.kit_list_tuple | exact R.kit_list_list | exact R.kit_list_bool | exact R.kit_list_str | exact R.kit_list_int)
local macro_rules | `(tactic| walk_at "sz") => `(tactic| first | assumption | (refine Nat.le_trans ?_ (show 1000 ≤ PySem.sizeLine by decide); omega) | decide)
local macro_rules | `(tactic| walk_at "szl") => `(tactic| first | assumption | exact Nat.le_of_lt (L2.small1000 (by omega)) | decide | decide +kernel)
local macro_rules | `(tactic| walk_at "ix") => `(tactic| first | rfl | (exact L2.atI_nat (by assumption)) | assumption)
local macro_rules | `(tactic| walk_at "cond") => `(tactic| first
  | exact Or.inl (by decide) | exact Or.inr (by decide) | exact Or.inl ⟨by omega, by omega⟩ | exact Or.inr ⟨by omega, by omega⟩
  | (constructor <;> omega) | (show _ ≠ _; omega) | decide | omega)
local macro_rules | `(tactic| walk_at "r1") => `(tactic| first
  | with_reducible refine R.seq ?_ | with_reducible refine R.asg ?_ | with_reducible refine R.ifs ?_ | with_reducible refine R.ret ?_ | with_reducible refine R.retN ?_ | with_reducible refine R.drop ?_ | with_reducible refine R.next ?_
  | with_reducible refine R.op ?_ | ((with_reducible refine R.var (v := ?v) ?h ?q); case h => rfl) | with_reducible refine R.c ?_ | with_reducible refine R.tst ?_ | with_reducible refine R.tb_ ?_ | with_reducible refine R.ex ?_
  | with_reducible refine R.i0 ?_ | with_reducible refine R.eqI ?_ | with_reducible refine R.neI ?_ | ((with_reducible refine R.ic ?_ ?_); · walk_at "cond") | with_reducible refine R.u0 ?_ | with_reducible refine R.un ?_
  | ((with_reducible refine R.eq ?_ ?_); · rfl) | ((with_reducible refine R.ne ?_ ?_); · rfl)
  | with_reducible refine R.and_ ?_ | with_reducible refine R.or_ ?_ | with_reducible refine R.not_ ?_ | with_reducible refine R.ife ?_ | with_reducible refine R.chain ?_
  | with_reducible refine R.cons ?_ | with_reducible refine R.nil ?_ | with_reducible refine R.call ?_ | with_reducible refine R.cb ?_ | with_reducible refine R.bm ?_
  | with_reducible refine R.gname ?_ | with_reducible refine R.gsub ?_ | with_reducible refine R.gnil ?_ | with_reducible refine R.gcons ?_ | with_reducible refine R.yes ?_
  | with_reducible refine R.int1 ?_ | ((with_reducible refine R.lenL (xs := ?xs) ?h ?q); case h => walk_at "at")
  | ((with_reducible refine R.ixL (xs := ?xs) (v := ?v) ?h ?e ?q); (case h => walk_at "at"); (case e => walk_at "ix"))
  | ((with_reducible refine R.setL (xs := ?xs) (n := ?n) ?h ?e ?q); (case h => walk_at "at"); (case e => rfl))
  | ((with_reducible refine R.append (xs := ?xs) ?h ?e ?q); (case h => walk_at "at"); (case e => walk_at "cond"))
  | with_reducible refine R.is_ ?_ | with_reducible refine R.isnot ?_ | with_reducible refine R.andV ?_ | with_reducible refine R.orV ?_ | with_reducible refine R.notV ?_
  | ((with_reducible refine R.isi (s := ?s) (b := ?b) ?ty ?h ?q); (case ty => walk_at "ty"); (case h => walk_at "kit"))
  | ((with_reducible refine R.addS ?h ?q); (case h => walk_at "sz")) | with_reducible refine R.max2 ?_ | with_reducible refine R.min2 ?_
  | ((with_reducible refine R.lenStr ?h ?q); (case h => walk_at "szl")) | ((with_reducible refine R.ixS (n := ?n) ?h ?e ?q); (case h => walk_at "szl"); (case e => walk_at "ix"))
  | ((with_reducible refine R.tyl (xs := ?xs) ?h ?q); (case h => walk_at "at")) | with_reducible refine R.itlist ?_ | with_reducible refine R.ittup ?_ | with_reducible refine R.m1 ?_ | with_reducible refine R.m1s ?_ | with_reducible refine R.leS ?_ | with_reducible refine R.itstr ?_ | with_reducible refine R.itstrE ?_ | with_reducible refine R.lc ?_ | with_reducible refine R.for_ ?_ | ((with_reducible refine R.all_ (bs := ?bs) ?h ?q); (case h => walk_at "at"))
  | with_reducible refine R.rng1 ?_ | ((with_reducible refine R.rngE ?h ?q); (case h => (constructor <;> omega)))
  | ((with_reducible refine R.lenT (xs := ?xs) ?h ?q); (case h => walk_at "sqt")) | ((with_reducible refine R.ixT (xs := ?xs) (v := ?v) ?h ?e ?q); (case h => walk_at "sqt"); (case e => walk_at "ix"))
  | ((refine R.itlE (xs := ?xs) ?h ?q); (case h => walk_at "at")) | ((refine R.ittE (xs := ?xs) ?h ?q); (case h => walk_at "at"))
  | with_reducible refine R.itT ?_ | with_reducible refine R.itF ?_ | with_reducible refine R.itNT ?_ | with_reducible refine R.itNF ?_
  | (with_reducible refine R.tup ?_) | (with_reducible refine R.lst ?_))
local macro_rules | `(tactic| walk_at "rd") => `(tactic| (repeat (first | walk_at "r1" | (dsimp only [Int.reduceToNat, List.set_cons_succ, List.set_cons_zero, List.length_cons, List.length_nil, List.nil_append, List.cons_append, List.append_nil]))))
local macro_rules | `(tactic| walk_at "go") => `(tactic| (rw [R.start_eq]; dsimp only [R.startE, List.map_nil]; walk_at "rd"))
namespace KN
open PySem L2 SX C8 R
section
variable {P : Program} {w : World} {K : PySem.W.Frag} {mg : Str → Option Value} {base : Heap}
/-- the module's numbers -/
structure Cs (mg : Str → Option Value) : Prop where
  MOST_SIMPLE : ∃ u, mg "MOST_SIMPLE" = some u ∧ RelV (.int 24) u
  MOST_MULTIPLIERS : ∃ u, mg "MOST_MULTIPLIERS" = some u ∧ RelV (.int 6) u
  LONGEST_WORD : ∃ u, mg "LONGEST_WORD" = some u ∧ RelV (.int 8) u
  GREATEST : ∃ u, mg "GREATEST" = some u ∧ RelV (.int 100000) u
abbrev sIsword : Stmt := top 8
theorem scIsword : FnScope ["text", "letter"] ["text"] (fnScope sIsword) := ⟨rfl, rfl, rfl, by decide +kernel, rfl, by decide +kernel, by decide +kernel⟩
def okSign (c : Nat) : Bool := decide (97 ≤ c) && decide (c ≤ 122)
def okWord (z : Str) : Bool := decide (1 ≤ (z.length : Int)) && decide ((z.length : Int) ≤ 8) && z.cps.toList.all okSign
def spIsword : Sp := fun vs H Q _ => ∃ z : Str, vs = [.str z] ∧ z.length ≤ 1000 ∧ ∀ H', Same H H' → Q (.bl (okWord z)) H'
theorem sign_ok (c : Nat) : ((!decide ([c] < [97])) && (!decide ([122] < [c]))) = okSign c := by
  unfold okSign
  have e1 : decide ([c] < [97]) = decide (c < 97) := decide_eq_decide.mpr lt1
  have e2 : decide ([122] < [c]) = decide (122 < c) := decide_eq_decide.mpr lt1
  rw [e1, e2]
  have e3 : (!decide (c < 97)) = decide (97 ≤ c) := by rw [← decide_not]; exact decide_eq_decide.mpr (by omega)
  have e4 : (!decide (122 < c)) = decide (c ≤ 122) := by rw [← decide_not]; exact decide_eq_decide.mpr (by omega)
  rw [e3, e4]
theorem c_is_word (Z : Zs mg) (C : Cs mg) {f : Addr} {fd : FuncData} (F : Def K mg "is_word" sIsword f fd) (b : Binds K fd ["text"] []) : Cal P w K mg base 1 "is_word" spIsword [] := by
  refine cal0 F b .nil scIsword (fun vs H Q E h => ?_) (fun cdv A outer s H vs Q E hr h => ?_)
  · obtain ⟨z, rfl, _⟩ := h
    rfl
  · obtain ⟨z, rfl, hz, k⟩ := h
    refine ⟨_, pss_one (ps_ret (pe_and (pe_chain op_le op_le pe_int (pe_callB cLenS (by rfl) Z.len PySem.boot_len (pa_cons (pv 0) pa_nil)) (pe_gc (by rfl) C.LONGEST_WORD)) (pe_one (pe_callB (kAll K) (by rfl) Z.all (by decide +kernel) (pa_cons (pe_lc (own := [("letter", 1)]) (g := gName 1) (tt := tYes) rfl scIsword.nd (pi_str (pv 0)) (blkOk_by (own := [("letter", 1)]) (N := ["text", "letter"]) (sc := fnScope sIsword) (by decide +kernel)) (fun _ _ _ _ _ => (pg_name (i := 1) scIsword.nd rfl (Or.inl rfl))) (fun _ _ _ _ _ => pts_nil) (fun _ _ _ _ _ => pe_chain oLeS oLeS pe_str (pv 1) pe_str)) pa_nil))))), ?_⟩
    have e0 : okWord z = (decide (1 ≤ (z.length : Int)) && decide ((z.length : Int) ≤ 8) && z.cps.toList.all okSign) := rfl
    walk_at "go"
    refine it (fun h1 => ?_) (fun h1 => ?_)
    · walk_at "rd"
      refine it (fun h2 => ?_) (fun h2 => ?_)
      · rw [decide_eq_true h1, decide_eq_true h2, Bool.true_and, Bool.true_and] at e0
        walk_at "rd"
        intro D hD
        refine lc_it walk_str (fun i H' => Same H H' ∧ H' D = some (.lst (((z.cps.toList.take i).map okSign).map V.bl))) ⟨same_new (Same.refl H) hD, upd_same⟩ (fun _ _ _ _ => trivial) ?_ ?_
        · rintro i x H1 H2 hi ⟨s0, hDc⟩ ⟨rfl, c, hc, rfl⟩
          have hc' : z.cps.toList[i]? = some c := by rw [← hc]; simp
          have fin : ∀ t : Bool, t = okSign c → ∃ acc, H2 D = some (.lst acc) ∧ acc.length < sizeLine ∧ Same H (upd H2 D (.lst (acc ++ [V.bl t]))) ∧ upd H2 D (.lst (acc ++ [V.bl t])) D = some (.lst (((z.cps.toList.take (i + 1)).map okSign).map V.bl)) := by
            rintro t rfl
            refine ⟨_, hDc, small1000 ?_, same_put s0 hD, ?_⟩
            · rw [List.length_map, List.length_map, List.length_take]
              have : z.length = z.cps.size := rfl
              omega
            · rw [upd_same, List.take_add_one, hc', List.map_append, List.map_append]
              rfl
          refine R.gname ⟨rfl, ?_⟩
          walk_at "rd"
          refine itn (fun h3 => ?_) (fun h3 => ?_)
          · walk_at "rd"
            refine fin _ ?_
            rw [← sign_ok]
            have h3' : ¬ [c] < [97] := h3
            rw [decide_eq_false h3']
            rfl
          · walk_at "rd"
            refine fin _ ?_
            rw [← sign_ok]
            have h3' : [c] < [97] := h3
            rw [decide_eq_true h3']
            rfl
        · rintro H' ⟨s0, hDc⟩
          have ht : z.cps.toList.take z.cps.size = z.cps.toList := List.take_of_length_le (by simp)
          rw [ht] at hDc
          walk_at "rd"
          have e1 : ((z.cps.toList.map okSign).all id) = z.cps.toList.all okSign := by rw [List.all_map]; rfl
          rw [e1, ← e0]
          exact k _ s0
      · rw [decide_eq_true h1, decide_eq_false h2] at e0
        walk_at "rd"
        have := k H (Same.refl H)
        rw [e0] at this
        exact this
    · rw [decide_eq_false h1] at e0
      walk_at "rd"
      have := k H (Same.refl H)
      rw [e0] at this
      exact this
end
end KN
end
section
set_option Elab.async false
set_option linter.all false
set_option maxRecDepth 100000
set_option maxHeartbeats 4000000
set_option pp.maxSteps 1500
set_option pp.deepTerms false
local macro_rules | `(tactic| walk_at "ne") => `(tactic| first
  | assumption | (apply Ne.symm; assumption)
  | exact R.ne_new (by assumption) | exact (R.ne_new (by assumption)).symm
  | exact L2.ne_of_none (by assumption) (by assumption) | exact (L2.ne_of_none (by assumption) (by assumption)).symm
  | exact L2.ne_of_none (by assumption) (R.free_new (by assumption)) | exact (L2.ne_of_none (by assumption) (R.free_new (by assumption))).symm)
local macro_rules | `(tactic| walk_at "at") => `(tactic| first
  | assumption | exact L2.upd_same
  | (refine R.sb (H := ?H) (p := ?p) ?e ?n ?h; (case e => assumption); (case n => walk_at "ne"); (case h => walk_at "at"))
  | (refine R.sm (H := ?H) ?e ?h; (case e => assumption); (case h => walk_at "at"))
  | (refine Eq.trans (L2.upd_ne ?_) ?_ <;> first | walk_at "ne" | walk_at "at"))
local macro_rules | `(tactic| walk_at "sqt") => `(tactic| first | assumption | (refine L2.SqT.of ?_; walk_at "at"))
local macro_rules | `(tactic| walk_at "ty") => `(tactic| first | exact R.tyN | exact R.tyB | exact R.tyI | exact R.tyS | (refine R.tyT (xs := ?xs) ?h; case h => walk_at "at") | (refine R.tyL (xs := ?xs) ?h; case h => walk_at "at"))
local macro_rules | `(tactic| walk_at "kit") => `(tactic| first | exact R.kit_NoneType_tuple | exact R.kit_NoneType_list | exact R.kit_NoneType_bool | exact R.kit_NoneType_str | exact R.kit_NoneType_int | exact R.kit_bool_tuple | exact R.kit_bool_list | exact R.kit_bool_bool | exact R.kit_bool_str | exact R.kit_bool_int | exact R.kit_int_tuple | exact R.kit_int_list | exact R.kit_int_bool | exact R.kit_int_str | exact R.kit_int_int | exact R.kit_str_tuple | exact R.kit_str_list | exact R.kit_str_bool | exact R.kit_str_str | exact R.kit_str_int | exact R.kit_tuple_tuple | exact R.kit_tuple_list | exact R.kit_tuple_bool | exact R.kit_tuple_str | exact R.kit_tuple_int | exact R.kit_list_tuple | exact R.kit_list_list | exact R.kit_list_bool | exact R.kit_list_str | exact R.kit_list_int)
local macro_rules | `(tactic| walk_at "sz") => `(tactic| first | assumption | (refine Nat.le_trans ?_ (show 1000 ≤ PySem.sizeLine by decide); omega) | decide)
local macro_rules | `(tactic| walk_at "szl") => `(tactic| first | assumption | exact Nat.le_of_lt (L2.small1000 (by omega)) | decide | decide +kernel)
local macro_rules | `(tactic| walk_at "ix") => `(tactic| first | rfl | (exact L2.atI_nat (by assumption)) | assumption)
local macro_rules | `(tactic| walk_at "cond") => `(tactic| first
  | exact Or.inl (by decide) | exact Or.inr (by decide) | exact Or.inl ⟨by omega, by omega⟩ | exact Or.inr ⟨by omega, by omega⟩
  | (constructor <;> omega) | (show _ ≠ _; omega) | decide | omega)
local macro_rules | `(tactic| walk_at "r1") => `(tactic| first
  | with_reducible refine R.seq ?_ | with_reducible refine R.asg ?_ | with_reducible refine R.ifs ?_ | with_reducible refine R.ret ?_ | with_reducible refine R.retN ?_ | with_reducible refine R.drop ?_ | with_reducible refine R.next ?_
  | with_reducible refine R.op ?_ | ((with_reducible refine R.var (v := ?v) ?h ?q); case h => rfl) | with_reducible refine R.c ?_ | with_reducible refine R.tst ?_ | with_reducible refine R.tb_ ?_ | with_reducible refine R.ex ?_
  | with_reducible refine R.i0 ?_ | with_reducible refine R.eqI ?_ | with_reducible refine R.neI ?_ | ((with_reducible refine R.ic ?_ ?_); · walk_at "cond") | with_reducible refine R.u0 ?_ | with_reducible refine R.un ?_
  | ((with_reducible refine R.eq ?_ ?_); · rfl) | ((with_reducible refine R.ne ?_ ?_); · rfl)
  | with_reducible refine R.and_ ?_ | with_reducible refine R.or_ ?_ | with_reducible refine R.not_ ?_ | with_reducible refine R.ife ?_ | with_reducible refine R.chain ?_
  | with_reducible refine R.cons ?_ | with_reducible refine R.nil ?_ | with_reducible refine R.call ?_ | with_reducible refine R.cb ?_ | with_reducible refine R.bm ?_
  | with_reducible refine R.gname ?_ | with_reducible refine R.gsub ?_ | with_reducible refine R.gnil ?_ | with_reducible refine R.gcons ?_ | with_reducible refine R.yes ?_
  | with_reducible refine R.int1 ?_ | ((with_reducible refine R.lenL (xs := ?xs) ?h ?q); case h => walk_at "at")
  | ((with_reducible refine R.ixL (xs := ?xs) (v := ?v) ?h ?e ?q); (case h => walk_at "at"); (case e => walk_at "ix"))
  | ((with_reducible refine R.setL (xs := ?xs) (n := ?n) ?h ?e ?q); (case h => walk_at "at"); (case e => rfl))
  | ((with_reducible refine R.append (xs := ?xs) ?h ?e ?q); (case h => walk_at "at"); (case e => walk_at "cond"))
  | with_reducible refine R.is_ ?_ | with_reducible refine R.isnot ?_ | with_reducible refine R.andV ?_ | with_reducible refine R.orV ?_ | with_reducible refine R.notV ?_
  | ((with_reducible refine R.isi (s := ?s) (b := ?b) ?ty ?h ?q); (case ty => walk_at "ty"); (case h => walk_at "kit"))
  | ((with_reducible refine R.addS ?h ?q); (case h => walk_at "sz")) | with_reducible refine R.max2 ?_ | with_reducible refine R.min2 ?_
  | ((with_reducible refine R.lenStr ?h ?q); (case h => walk_at "szl")) | ((with_reducible refine R.ixS (n := ?n) ?h ?e ?q); (case h => walk_at "szl"); (case e => walk_at "ix"))
  | ((with_reducible refine R.tyl (xs := ?xs) ?h ?q); (case h => walk_at "at")) | with_reducible refine R.itlist ?_ | with_reducible refine R.ittup ?_ | with_reducible refine R.m1 ?_ | with_reducible refine R.m1s ?_ | with_reducible refine R.leS ?_ | with_reducible refine R.itstr ?_ | with_reducible refine R.itstrE ?_ | with_reducible refine R.lc ?_ | with_reducible refine R.for_ ?_ | ((with_reducible refine R.all_ (bs := ?bs) ?h ?q); (case h => walk_at "at"))
  | with_reducible refine R.rng1 ?_ | ((with_reducible refine R.rngE ?h ?q); (case h => (constructor <;> omega)))
  | ((with_reducible refine R.lenT (xs := ?xs) ?h ?q); (case h => walk_at "sqt")) | ((with_reducible refine R.ixT (xs := ?xs) (v := ?v) ?h ?e ?q); (case h => walk_at "sqt"); (case e => walk_at "ix"))
  | ((refine R.itlE (xs := ?xs) ?h ?q); (case h => walk_at "at")) | ((refine R.ittE (xs := ?xs) ?h ?q); (case h => walk_at "at"))
  | with_reducible refine R.itT ?_ | with_reducible refine R.itF ?_ | with_reducible refine R.itNT ?_ | with_reducible refine R.itNF ?_
  | (with_reducible refine R.tup ?_) | (with_reducible refine R.lst ?_))
local macro_rules | `(tactic| walk_at "rd") => `(tactic| (repeat (first | walk_at "r1" | (dsimp only [Int.reduceToNat, List.set_cons_succ, List.set_cons_zero, List.length_cons, List.length_nil, List.nil_append, List.cons_append, List.append_nil]))))
local macro_rules | `(tactic| walk_at "go") => `(tactic| (rw [R.start_eq]; dsimp only [R.startE, List.map_nil]; walk_at "rd"))
namespace KN
open PySem L2 SX C8 R
section
variable {P : Program} {w : World} {K : PySem.W.Frag} {mg : Str → Option Value} {base : Heap}
abbrev sWord : Stmt := top 19
theorem scWord : FnScope ["pool", "seen", "letters", "size", "word", "free", "k", "one"] ["pool", "seen"] (fnScope sWord) := ⟨rfl, rfl, rfl, by decide +kernel, rfl, by decide +kernel, by decide +kernel⟩
def GoodW (z : Str) : Prop := ∃ cs : List Nat, z = S cs ∧ 1 ≤ cs.length ∧ (cs.length ≤ 8 ∧ cs.length ≠ 5) ∧ ∀ c ∈ cs, 97 ≤ c ∧ c ≤ 122
/-- all that stood stands but p and q -/
def SameBut2 (p q : Addr) (H H' : Hp) : Prop := ∀ b o, b ≠ p → b ≠ q → H b = some o → H' b = some o
theorem PoolAt.new {H : Hp} {p l t : Addr} {o : HO} (h : PoolAt H p l) (n : H t = none) : PoolAt (upd H t o) p l := by
  obtain ⟨⟨cs, i, d, s, h1, h2, h3⟩, h4⟩ := h
  exact ⟨⟨cs, i, d, s, by rw [upd_ne (ne_of_none h1 n)]; exact h1, by rw [upd_ne (ne_of_none h2 n)]; exact h2, h3⟩, h4⟩
/-- another object is changed -/
theorem PoolAt.put {H : Hp} {p l t : Addr} {o : HO} (h : PoolAt H p l) (n1 : t ≠ p) (n2 : t ≠ l) : PoolAt (upd H t o) p l := by
  obtain ⟨⟨cs, i, d, s, h1, h2, h3⟩, h4⟩ := h
  exact ⟨⟨cs, i, d, s, by rw [upd_ne n1.symm]; exact h1, by rw [upd_ne n2.symm]; exact h2, h3⟩, h4⟩
theorem PoolAt.same {H H' : Hp} {p l : Addr} (h : PoolAt H p l) (s : Same H H') : PoolAt H' p l := by
  obtain ⟨⟨cs, i, d, z, h1, h2, h3⟩, h4⟩ := h
  exact ⟨⟨cs, i, d, z, s _ _ h1, s _ _ h2, h3⟩, h4⟩
theorem PoolAt.nep {H : Hp} {p l t : Addr} (h : PoolAt H p l) (n : H t = none) : t ≠ p ∧ t ≠ l := by
  obtain ⟨⟨cs, i, d, s, h1, h2, h3⟩, h4⟩ := h
  exact ⟨(ne_of_none h1 n).symm, (ne_of_none h2 n).symm⟩
theorem r_take {H : Hp} {Q : VK} {E : XK} {p l : Addr} {m : Int} (h : PoolAt H p l) (h1 : 1 ≤ m) (h2 : m ≤ 1000000) (q : ∀ H' d, SameBut p H H' → PoolAt H' p l → 0 ≤ d → d < m → Q (.int d) H') : spTake ([.ref p, .int m] ++ []) H Q E := ⟨p, l, m, rfl, h, h1, h2, q⟩
theorem r_take' {H : Hp} {Q : VK} {E : XK} {p l : Addr} {m : Int} (h : PoolAt H p l) (h1 : 1 ≤ m) (h2 : m ≤ 1000000) (q : ∀ H' d, SameBut p H H' → PoolAt H' p l → 0 ≤ d → d < m → Q (.int d) H') : spTake [.ref p, .int m] H Q E := ⟨p, l, m, rfl, h, h1, h2, q⟩
def spWord : Sp := fun vs H Q _ => ∃ (p l q : Addr) (ws : List Str), vs = [.ref p, .ref q] ∧ PoolAt H p l ∧ q ≠ p ∧ q ≠ l ∧ H q = some (.lst (ws.map V.str)) ∧ ws.length ≤ 60 ∧
  ∀ H' z, SameBut2 p q H H' → PoolAt H' p l → H' q = some (.lst ((ws ++ [z]).map V.str)) → GoodW z → z ∉ ws → Q (.str z) H'
theorem goodW_of {z : Str} (h : okWord z = true) (h5 : z.length ≠ 5 := by decide +kernel) : GoodW z := by
  unfold okWord at h
  simp only [Bool.and_eq_true, decide_eq_true_eq, List.all_eq_true] at h
  obtain ⟨⟨h1, h2⟩, h3⟩ := h
  refine ⟨z.cps.toList, (S_tl z).symm, ?_, ?_, fun c hc => ?_⟩
  · have : z.cps.toList.length = z.length := by simp [Str.length]
    omega
  · have : z.cps.toList.length = z.length := by simp [Str.length]
    omega
  · have := h3 c hc
    unfold okSign at this
    simp only [Bool.and_eq_true, decide_eq_true_eq] at this
    exact this
theorem okW_of {z : Str} (h : GoodW z) : okWord z = true := by
  obtain ⟨cs, rfl, h1, h2, h3⟩ := h
  unfold okWord
  rw [S_len]
  simp only [Bool.and_eq_true, decide_eq_true_eq, List.all_eq_true]
  refine ⟨⟨by omega, by omega⟩, fun c hc => ?_⟩
  have := h3 c hc
  unfold okSign
  simp only [Bool.and_eq_true, decide_eq_true_eq]
  exact this
theorem letters_all : ∀ n, n < 26 → (Str.ofString "abcdefghijklmnopqrstuvwxyz").cps.toList[n]? = some (97 + n) := by decide +kernel
theorem atI_pos {α : Type} {xs : List α} {z : Int} {v : α} (e : 0 ≤ z) (h : xs[z.toNat]? = some v) : atI xs z = some v := by
  have e' : z = ((z.toNat : Nat) : Int) := by omega
  rw [e']; exact atI_nat h
theorem letters_at {d : Int} (h0 : 0 ≤ d) (h1 : d < 26) : atI (Str.ofString "abcdefghijklmnopqrstuvwxyz").cps.toList d = some (97 + d.toNat) := atI_pos h0 (letters_all d.toNat (by omega))
def fw (k : Nat) : Str := S [113] ++ S [97 + ((k : Int).fdiv 26).toNat] ++ S [97 + ((k : Int).fmod 26).toNat]
theorem fw_eq (k : Nat) : fw k = S [113, 97 + k / 26, 97 + k % 26] := by
  have e1 : ((k : Int).fdiv 26).toNat = k / 26 := by rw [Int.fdiv_eq_ediv_of_nonneg _ (by decide)]; omega
  have e2 : ((k : Int).fmod 26).toNat = k % 26 := by rw [Int.fmod_eq_emod_of_nonneg _ (by decide)]; omega
  unfold fw
  rw [e1, e2, S_cat, S_cat]
  rfl
theorem fw_inj {a b : Nat} (h : fw a = fw b) : a = b := by
  rw [fw_eq, fw_eq] at h
  have h := S_inj h
  simp only [List.cons.injEq, and_true] at h
  omega
theorem fw_good {k : Nat} (h : k < 600) : GoodW (fw k) := ⟨_, fw_eq k, by simp, by simp, fun c hc => by
  simp only [List.mem_cons, List.not_mem_nil, or_false] at hc
  omega⟩
theorem fws_nodup (n : Nat) : ((List.range n).map fw).Nodup := by
  rw [List.nodup_iff_pairwise_ne, List.pairwise_map]
  exact List.Pairwise.imp (fun h e => h (fw_inj e)) (List.nodup_iff_pairwise_ne.mp List.nodup_range)
def lettersV : V := .str (Str.ofString "abcdefghijklmnopqrstuvwxyz")
def spWordI (p l q : Addr) (ws : List Str) (H : Hp) (z : Str) (n : V) (σ' : L2.St) (H' : Hp) : Prop := σ' = [some (.ref p), some (.ref q), some lettersV, some n, some (.str z), none, none, none] ∧ SameBut p H H' ∧ PoolAt H' p l ∧ GoodW z
theorem c_word (Z : Zs mg) (c_take : Cal P w K mg base 2 "_law_take" spTake []) {f : Addr} {fd : FuncData} (F : Def K mg "_law_word" sWord f fd) (b : Binds K fd ["pool", "seen"] []) : Cal P w K mg base 3 "_law_word" spWord [] := by
  refine cal0 F b .nil scWord (fun vs H Q E h => ?_) (fun cdv A outer s H vs Q E hr h => ?_)
  · obtain ⟨p, l, q, ws, rfl, _⟩ := h
    rfl
  · obtain ⟨p, l, q, ws, rfl, hP, hqp, hql, hq, hws, k⟩ := h
    refine ⟨_, pss_cons (ps_set (i := 2) scWord.nd rfl (Or.inr rfl) pe_str)
      (pss_cons (ps_set (i := 3) scWord.nd rfl (Or.inl rfl) (pe_ix (kIxT K) (pe_tup (pa_cons pe_int (pa_cons pe_int (pa_cons pe_int (pa_cons pe_int pa_nil))))) (pe_c c_take hr (by omega) (by rfl) (pa_cons (pv 0) (pa_cons pe_int pa_nil))) (fun _ _ => rfl)))
      (pss_cons (ps_set (i := 4) scWord.nd rfl (Or.inl rfl) (kJoin K pe_str (pe_lc (own := [("k", 6)]) (g := gName 6) (tt := tYes) rfl scWord.nd (pi_range1 (by rfl) Z.range (pa_cons (pv 3) pa_nil)) (blkOk_by (own := [("k", 6)]) (N := ["pool", "seen", "letters", "size", "word", "free", "k", "one"]) (sc := fnScope sWord) (by decide +kernel)) (fun _ _ _ _ _ => (pg_name (i := 6) scWord.nd rfl (Or.inl rfl))) (fun _ _ _ _ _ => pts_nil) (fun _ _ _ _ _ => pe_ix ix_str (pv 2) (pe_c c_take hr (by omega) (by rfl) (pa_cons (pv 0) (pa_cons pe_int pa_nil))) (fun _ _ => rfl)))))
      (pss_cut (ps_if (pt_cmpR op_eq (pe_c c_take hr (by omega) (by rfl) (pa_cons (pv 0) (pa_cons pe_int pa_nil))) pe_int (nomark _))
        (pss_one (ps_set (i := 4) scWord.nd rfl (Or.inl rfl) (pe_ix (kIxT K) (pe_tup (pa_cons pe_str (pa_cons pe_str (pa_cons pe_str (pa_cons pe_str (pa_cons pe_str (pa_cons pe_str (pa_cons pe_str pa_nil)))))))) (pe_c c_take hr (by omega) (by rfl) (pa_cons (pv 0) (pa_cons pe_int pa_nil))) (fun _ _ => rfl))))
        (pss_nil))
      (pss_cut (ps_if (pt_cmpR (kIn K) (pv 4) (pv 1) (by rfl))
        (pss_cons (ps_setLc (i := 5) (own := [("k", 6)]) (g := gName 6) (tt := tYes) rfl scWord.nd rfl rfl (sw_true rfl rfl rfl (by decide +kernel)) (pi_range1 (by rfl) Z.range (pa_cons (pe_op op_add (pe_callB (kLen K) (by rfl) Z.len PySem.boot_len (pa_cons (pv 1) pa_nil)) pe_int) pa_nil)) (blkOk_by (own := [("k", 6)]) (N := ["pool", "seen", "letters", "size", "word", "free", "k", "one"]) (sc := fnScope sWord) (by decide +kernel)) (fun _ _ _ _ _ => (pg_name (i := 6) scWord.nd rfl (Or.inl rfl))) (fun _ _ _ _ _ => pts_nil) (fun _ _ _ _ _ => pe_op oAddS (pe_op oAddS pe_str (pe_ix ix_str (pv 2) (pe_op op_fdivN (pv 6) pe_int) (fun _ _ => rfl))) (pe_ix ix_str (pv 2) (pe_op op_modN (pe_callTy cInt (by rfl) Z.int (by decide +kernel) (pa_cons (pv 6) pa_nil)) pe_int) (fun _ _ => rfl))))
      (pss_one (ps_set (i := 4) scWord.nd rfl (Or.inl rfl) (pe_ix (kIxL K) (pe_lc (own := [("one", 7)]) (g := gName 7) rfl scWord.nd (kiL K (pv 5)) (blkOk_by (own := [("one", 7)]) (N := ["pool", "seen", "letters", "size", "word", "free", "k", "one"]) (sc := fnScope sWord) (by decide +kernel)) (fun _ _ _ _ _ => (pg_name (i := 7) scWord.nd rfl (Or.inl rfl))) (fun _ _ _ _ _ => pts_one (pt_cmpR (kNotIn K) (pv 7) (pv 1) (by rfl))) (fun _ _ _ _ _ => pv 7)) pe_int (fun _ _ => rfl)))))
        (pss_nil))
      (pss_cons (ps_expr (kBM K (pe_bm PySem.F.plainAttrs_list PySem.F.slot_list_append PySem.F.type_list_append mt_append (pv 1) (pa_cons (pv 4) pa_nil))))
      (pss_one (ps_ret (pv 4)))))))), ?_⟩
    walk_at "go"
    refine ⟨by decide, fun t ht => ?_⟩
    walk_at "rd"
    obtain ⟨tp, tl⟩ := hP.nep ht
    refine r_take' (hP.new ht) (by decide) (by decide) (fun H1 d s1 P1 l1 u1 => ?_)
    have s01 : SameBut p H H1 := (SameBut.refl.new ht).trans s1
    obtain ⟨v, hv, e⟩ := atI_in (xs := [V.int 1, .int 1, .int 2, .int 8]) l1 u1
    obtain ⟨n, rfl, n1, n8⟩ : ∃ n : Int, v = .int n ∧ 1 ≤ n ∧ (n ≤ 8 ∧ n ≠ 5) := by
      simp only [List.mem_cons, List.not_mem_nil, or_false] at hv
      rcases hv with rfl | rfl | rfl | rfl
      · exact ⟨1, rfl, by decide, by decide⟩
      · exact ⟨1, rfl, by decide, by decide⟩
      · exact ⟨2, rfl, by decide, by decide⟩
      · exact ⟨8, rfl, by decide, by decide⟩
    have ht1 : H1 t = some (.tup [V.int 1, .int 1, .int 2, .int 8]) := s1 _ _ tp upd_same
    walk_at "rd"
    intro D hD
    obtain ⟨Dp, Dl⟩ := P1.nep hD
    refine lc_it walk_range (fun i H' => SameBut p H1 H' ∧ PoolAt H' p l ∧ ∃ cs : List Nat, cs.length = i ∧ H' D = some (.lst ((cs.map fun c => S [c]).map V.str)) ∧ ∀ c ∈ cs, 97 ≤ c ∧ c ≤ 122)
      ⟨SameBut.refl.new hD, P1.new hD, [], rfl, upd_same, fun c hc => nomatch hc⟩ (fun _ _ _ _ => trivial) ?_ ?_
    · rintro i x H2 H2' hi ⟨s2, P2, cs, hcs, hDc, hgood⟩ ⟨rfl, rfl⟩
      refine R.gname ⟨rfl, ?_⟩
      walk_at "rd"
      refine r_take' P2 (by decide) (by decide) (fun H3 d3 s3 P3 l3 u3 => ?_)
      refine R.ixS (by decide +kernel) (letters_at l3 u3) ?_
      walk_at "rd"
      refine ⟨_, s3 _ _ Dp hDc, small1000 (by rw [List.length_map, List.length_map]; omega), (s2.trans s3).put' hD, P3.put Dp Dl, cs ++ [97 + d3.toNat], by simp [hcs], by rw [upd_same, List.map_append, List.map_append]; rfl, fun c hc => ?_⟩
      rcases List.mem_append.mp hc with z | z
      · exact hgood c z
      · have := List.mem_singleton.mp z
        omega
    · rintro H2 ⟨s2, P2, cs, hcs, hDc, hgood⟩
      walk_at "rd"
      refine R.join_ hDc ?_ ?_
      · have e1 : ((cs.map fun c => S [c]).map (·.length)).sum = cs.length := by
          clear hDc hgood hcs
          induction cs with
          | nil => rfl
          | cons c cs ih => rw [List.map_cons, List.map_cons, List.sum_cons, ih, S_len, List.length_cons]; simp only [List.length_cons, List.length_nil]; omega
        have e2 : (Str.ofString "").length = 0 := by decide +kernel
        rw [e1, e2]
        omega
      have ej : Txt.join (Str.ofString "") (cs.map fun c => S [c]) = S cs := by
        have e0 : Str.ofString "" = S [] := by decide +kernel
        have e1 : (cs.map fun c => S [c]) = (cs.map fun c => [c]).map S := by rw [List.map_map]; rfl
        rw [e0, e1, joinS, joinL_nil, flat1]
      rw [ej]
      have hgw : GoodW (S cs) := ⟨cs, rfl, by omega, by omega, hgood⟩
      walk_at "rd"
      have hP2 : SameBut p H H2 := s01.trans s2
      refine R.cut (fun σ' H' => ∃ z, spWordI p l q ws H z (.int n) σ' H') ?_ ?_
      · walk_at "rd"
        refine r_take' P2 (by decide) (by decide) (fun H3 d3 s3 P3 l3 u3 => ?_)
        walk_at "rd"
        refine it (fun h3 => ?_) (fun h3 => ?_)
        · walk_at "rd"
          refine ⟨by decide, fun t2 ht2 => ?_⟩
          walk_at "rd"
          obtain ⟨tp2, tl2⟩ := P3.nep ht2
          refine r_take' (P3.new ht2) (by decide) (by decide) (fun H4 d4 s4 P4 l4 u4 => ?_)
          obtain ⟨v, hv, e⟩ := atI_in (xs := [V.str "rest", .str "one", .str "up", .str "to", .str "without", .str "end", .str "unsaid"]) l4 u4
          obtain ⟨z, rfl, hz⟩ : ∃ z : Str, v = .str z ∧ GoodW z := by
            simp only [List.mem_cons, List.not_mem_nil, or_false] at hv
            rcases hv with rfl | rfl | rfl | rfl | rfl | rfl | rfl
            all_goals exact ⟨_, rfl, goodW_of (by decide +kernel) (by decide +kernel)⟩
          have ht4 : H4 t2 = some (.tup [V.str "rest", .str "one", .str "up", .str "to", .str "without", .str "end", .str "unsaid"]) := s4 _ _ tp2 upd_same
          walk_at "rd"
          exact ⟨z, rfl, ((hP2.trans s3).new ht2).trans s4, P4, hz⟩
        · walk_at "rd"
          exact ⟨_, rfl, hP2.trans s3, P3, hgw⟩
      · rintro σ' H3 ⟨z, rfl, s3, P3, hz⟩
        have hq3 : H3 q = some (.lst (ws.map V.str)) := s3 _ _ hqp hq
        refine R.cut (fun σ' H' => ∃ (z : Str) (k1 : Option V), σ' = [some (.ref p), some (.ref q), some lettersV, some (.int n), some (.str z), k1, none, none] ∧ SameBut p H H' ∧ PoolAt H' p l ∧ GoodW z ∧ z ∉ ws) ?_ ?_
        · walk_at "rd"
          refine R.inL hq3 rfl (flat_strs _) (in_strs _ _) ?_
          walk_at "rd"
          refine it (fun h4 => ?_) (fun h4 => ?_)
          · walk_at "rd"
            rw [List.length_map]
            refine R.rngE ⟨by omega, by omega⟩ ?_
            intro D1 hD1
            obtain ⟨D1p, D1l⟩ := P3.nep hD1
            refine lc_it walk_range (fun i H' => Same H3 H' ∧ H' D1 = some (.lst (((List.range i).map fw).map V.str))) ⟨same_new (Same.refl _) hD1, upd_same⟩ (fun _ _ _ _ => trivial) ?_ ?_
            · rintro i x H5 H5' hi ⟨s5, hD5⟩ ⟨rfl, hx⟩
              obtain rfl : x = V.int (i : Int) := hx.trans (congrArg V.int (Int.zero_add _))
              have hi' : i < 61 := by omega
              have f0 := Int.fdiv_nonneg (a := (i : Int)) (b := 26) (by omega) (by omega)
              have f1 : (i : Int).fdiv 26 < 26 := by rw [Int.fdiv_eq_ediv_of_nonneg _ (by decide)]; omega
              have g0 := fmod_lt (a := (i : Int)) (m := 26) (by decide)
              refine R.gname ⟨rfl, ?_⟩
              walk_at "rd"
              refine R.ixS (by decide +kernel) (letters_at f0 f1) ?_
              walk_at "rd"
              refine R.addS (by show 2 ≤ PySem.sizeLine; decide) ?_
              walk_at "rd"
              refine R.ixS (by decide +kernel) (letters_at g0.1 g0.2) ?_
              refine R.addS (by show 3 ≤ PySem.sizeLine; decide) ?_
              refine ⟨_, hD5, small1000 (by rw [List.length_map, List.length_map, List.length_range]; omega), same_put s5 hD1, ?_⟩
              rw [upd_same, List.range_succ, List.map_append, List.map_append]
              have eq1 : (Str.ofString "q") = S [113] := by decide +kernel
              rw [eq1]
              rfl
            · rintro H5 ⟨s5, hD5⟩
              have hq5 : H5 q = some (.lst (ws.map V.str)) := s5 _ _ hq3
              rw [show (((ws.length : Nat) : Int) + 1).toNat = ws.length + 1 by omega] at hD5
              walk_at "rd"
              intro D2 hD2
              obtain ⟨D2p, D2l⟩ := (P3.same s5).nep hD2
              generalize hfs : (List.range (ws.length + 1)).map fw = fs at hD5
              refine lc_it (walk_list (xs := fs.map V.str)) (fun i H' => Same H5 H' ∧ H' D2 = some (.lst (((fs.take i).filter fun x => decide (x ∉ ws)).map V.str))) ⟨same_new (Same.refl _) hD2, upd_same⟩ (fun i H' _ hh => SqL.of (hh.1 _ _ hD5)) ?_ ?_
              · rintro i x H6 H6' hi ⟨s6, hD6⟩ ⟨rfl, hx⟩
                have hq6 := s6 _ _ hq5
                rw [List.getElem?_map] at hx
                cases hu : fs[i]? with
                | none => rw [hu] at hx; cases hx
                | some u =>
                  rw [hu] at hx
                  cases hx
                  have hlen : i < 61 := by
                    have := (List.getElem?_eq_some_iff.mp hu).1
                    rw [← hfs, List.length_map, List.length_range] at this
                    omega
                  refine R.gname ⟨rfl, ?_⟩
                  walk_at "rd"
                  refine R.ninL hq6 rfl (flat_strs _) rfl ?_
                  rw [in_strs]
                  walk_at "rd"
                  have et : fs.take (i + 1) = fs.take i ++ [u] := by rw [List.take_add_one, hu]; rfl
                  refine itn (fun h7 => ?_) (fun h7 => ?_)
                  · walk_at "rd"
                    refine ⟨_, hD6, small1000 ?_, same_put s6 hD2, ?_⟩
                    · rw [List.length_map]
                      have := List.length_filter_le (fun x => decide (x ∉ ws)) (fs.take i)
                      rw [List.length_take] at this
                      omega
                    · rw [upd_same, et, List.filter_append, List.map_append]
                      rw [List.filter_cons_of_pos (by simpa using h7)]
                      rfl
                  · refine ⟨s6, ?_⟩
                    rw [et, List.filter_append, List.filter_cons_of_neg (by simpa using h7), List.filter_nil, List.append_nil]
                    exact hD6
              · rintro H6 ⟨s6, hD6⟩
                rw [List.length_map, List.take_of_length_le (Nat.le_refl _)] at hD6
                obtain ⟨y, hy, hyn⟩ := one_free fs ws (by rw [← hfs]; exact fws_nodup _) (by rw [← hfs, List.length_map, List.length_range]; omega)
                cases hf : fs.filter (fun x => decide (x ∉ ws)) with
                | nil =>
                  have : y ∈ fs.filter (fun x => decide (x ∉ ws)) := List.mem_filter.mpr ⟨hy, by simpa using hyn⟩
                  rw [hf] at this
                  cases this
                | cons z2 rest =>
                  have hz2 : z2 ∈ fs.filter (fun x => decide (x ∉ ws)) := by rw [hf]; exact List.mem_cons_self
                  obtain ⟨hz2a, hz2b⟩ := List.mem_filter.mp hz2
                  rw [hf] at hD6
                  rw [← hfs] at hz2a
                  obtain ⟨j, hj, rfl⟩ := List.mem_map.mp hz2a
                  have hjr := List.mem_range.mp hj
                  walk_at "rd"
                  refine R.ixL hD6 (atI_nat (j := 0) rfl) ?_
                  walk_at "rd"
                  exact ⟨_, _, rfl, fun b o b1 hb => s6 _ _ (s5 _ _ (s3 _ _ b1 hb)), (P3.same s5).same s6, fw_good (by omega), by simpa using hz2b⟩
          · walk_at "rd"
            exact ⟨z, none, rfl, s3, P3, hz, h4⟩
        · rintro σ' H4 ⟨z2, k1, rfl, s4, P4, hz2, hnew⟩
          have hq4 : H4 q = some (.lst (ws.map V.str)) := s4 _ _ hqp hq
          walk_at "rd"
          refine R.append hq4 (small1000 (by rw [List.length_map]; omega)) ?_
          walk_at "rd"
          refine k _ z2 (fun b o b1 b2 hb => ?_) (P4.put hqp hql) (by rw [upd_same, List.map_append]; rfl) hz2 hnew
          rw [upd_ne b2]
          exact s4 b o b1 hb
end
end KN
end
section
set_option Elab.async false
set_option linter.all false
set_option maxRecDepth 100000
set_option maxHeartbeats 4000000
set_option pp.maxSteps 1500
set_option pp.deepTerms false
local macro_rules | `(tactic| walk_at "ne") => `(tactic| first
  | assumption | (apply Ne.symm; assumption)
  | exact R.ne_new (by assumption) | exact (R.ne_new (by assumption)).symm
  | exact L2.ne_of_none (by assumption) (by assumption) | exact (L2.ne_of_none (by assumption) (by assumption)).symm
  | exact L2.ne_of_none (by assumption) (R.free_new (by assumption)) | exact (L2.ne_of_none (by assumption) (R.free_new (by assumption))).symm)
local macro_rules | `(tactic| walk_at "at") => `(tactic| first
  | assumption | exact L2.upd_same
  | (refine R.sb (H := ?H) (p := ?p) ?e ?n ?h; (case e => assumption); (case n => walk_at "ne"); (case h => walk_at "at"))
  | (refine R.sm (H := ?H) ?e ?h; (case e => assumption); (case h => walk_at "at"))
  | (refine Eq.trans (L2.upd_ne ?_) ?_ <;> first | walk_at "ne" | walk_at "at"))
local macro_rules | `(tactic| walk_at "sqt") => `(tactic| first | assumption | (refine L2.SqT.of ?_; walk_at "at"))
local macro_rules | `(tactic| walk_at "ty") => `(tactic| first | exact R.tyN | exact R.tyB | exact R.tyI | exact R.tyS | (refine R.tyT (xs := ?xs) ?h; case h => walk_at "at") | (refine R.tyL (xs := ?xs) ?h; case h => walk_at "at"))
local macro_rules | `(tactic| walk_at "kit") => `(tactic| first | exact R.kit_NoneType_tuple | exact R.kit_NoneType_list | exact R.kit_NoneType_bool | exact R.kit_NoneType_str | exact R.kit_NoneType_int | exact R.kit_bool_tuple | exact R.kit_bool_list | exact R.kit_bool_bool | exact R.kit_bool_str | exact R.kit_bool_int | exact R.kit_int_tuple | exact R.kit_int_list | exact R.kit_int_bool | exact R.kit_int_str | exact R.kit_int_int | exact R.kit_str_tuple | exact R.kit_str_list | exact R.kit_str_bool | exact R.kit_str_str | exact R.kit_str_int | exact R.kit_tuple_tuple | exact R.kit_tuple_list | exact R.kit_tuple_bool | exact R.kit_tuple_str | exact R.kit_tuple_int | exact R.kit_list_tuple | exact R.kit_list_list | exact R.kit_list_bool | exact R.kit_list_str | exact R.kit_list_int)
local macro_rules | `(tactic| walk_at "sz") => `(tactic| first | assumption | (refine Nat.le_trans ?_ (show 1000 ≤ PySem.sizeLine by decide); omega) | decide)
local macro_rules | `(tactic| walk_at "szl") => `(tactic| first | assumption | exact Nat.le_of_lt (L2.small1000 (by omega)) | decide | decide +kernel)
local macro_rules | `(tactic| walk_at "ix") => `(tactic| first | rfl | (exact L2.atI_nat (by assumption)) | assumption)
local macro_rules | `(tactic| walk_at "cond") => `(tactic| first
  | exact Or.inl (by decide) | exact Or.inr (by decide) | exact Or.inl ⟨by omega, by omega⟩ | exact Or.inr ⟨by omega, by omega⟩
  | (constructor <;> omega) | (show _ ≠ _; omega) | decide | omega)
local macro_rules | `(tactic| walk_at "r1") => `(tactic| first
  | with_reducible refine R.seq ?_ | with_reducible refine R.asg ?_ | with_reducible refine R.ifs ?_ | with_reducible refine R.ret ?_ | with_reducible refine R.retN ?_ | with_reducible refine R.drop ?_ | with_reducible refine R.next ?_
  | with_reducible refine R.op ?_ | ((with_reducible refine R.var (v := ?v) ?h ?q); case h => rfl) | with_reducible refine R.c ?_ | with_reducible refine R.tst ?_ | with_reducible refine R.tb_ ?_ | with_reducible refine R.ex ?_
  | with_reducible refine R.i0 ?_ | with_reducible refine R.eqI ?_ | with_reducible refine R.neI ?_ | ((with_reducible refine R.ic ?_ ?_); · walk_at "cond") | with_reducible refine R.u0 ?_ | with_reducible refine R.un ?_
  | ((with_reducible refine R.eq ?_ ?_); · rfl) | ((with_reducible refine R.ne ?_ ?_); · rfl)
  | with_reducible refine R.and_ ?_ | with_reducible refine R.or_ ?_ | with_reducible refine R.not_ ?_ | with_reducible refine R.ife ?_ | with_reducible refine R.chain ?_
  | with_reducible refine R.cons ?_ | with_reducible refine R.nil ?_ | with_reducible refine R.call ?_ | with_reducible refine R.cb ?_ | with_reducible refine R.bm ?_
  | with_reducible refine R.gname ?_ | with_reducible refine R.gsub ?_ | with_reducible refine R.gnil ?_ | with_reducible refine R.gcons ?_ | with_reducible refine R.yes ?_
  | with_reducible refine R.int1 ?_ | ((with_reducible refine R.lenL (xs := ?xs) ?h ?q); case h => walk_at "at")
  | ((with_reducible refine R.ixL (xs := ?xs) (v := ?v) ?h ?e ?q); (case h => walk_at "at"); (case e => walk_at "ix"))
  | ((with_reducible refine R.setL (xs := ?xs) (n := ?n) ?h ?e ?q); (case h => walk_at "at"); (case e => rfl))
  | ((with_reducible refine R.append (xs := ?xs) ?h ?e ?q); (case h => walk_at "at"); (case e => walk_at "cond"))
  | with_reducible refine R.is_ ?_ | with_reducible refine R.isnot ?_ | with_reducible refine R.andV ?_ | with_reducible refine R.orV ?_ | with_reducible refine R.notV ?_
  | ((with_reducible refine R.isi (s := ?s) (b := ?b) ?ty ?h ?q); (case ty => walk_at "ty"); (case h => walk_at "kit"))
  | ((with_reducible refine R.addS ?h ?q); (case h => walk_at "sz")) | with_reducible refine R.max2 ?_ | with_reducible refine R.min2 ?_
  | ((with_reducible refine R.lenStr ?h ?q); (case h => walk_at "szl")) | ((with_reducible refine R.ixS (n := ?n) ?h ?e ?q); (case h => walk_at "szl"); (case e => walk_at "ix"))
  | ((with_reducible refine R.tyl (xs := ?xs) ?h ?q); (case h => walk_at "at")) | with_reducible refine R.itlist ?_ | with_reducible refine R.ittup ?_ | with_reducible refine R.m1 ?_ | with_reducible refine R.m1s ?_ | with_reducible refine R.leS ?_ | with_reducible refine R.itstr ?_ | with_reducible refine R.itstrE ?_ | with_reducible refine R.lc ?_ | with_reducible refine R.for_ ?_ | ((with_reducible refine R.all_ (bs := ?bs) ?h ?q); (case h => walk_at "at"))
  | with_reducible refine R.rng1 ?_ | ((with_reducible refine R.rngE ?h ?q); (case h => (constructor <;> omega)))
  | ((with_reducible refine R.lenT (xs := ?xs) ?h ?q); (case h => walk_at "sqt")) | ((with_reducible refine R.ixT (xs := ?xs) (v := ?v) ?h ?e ?q); (case h => walk_at "sqt"); (case e => walk_at "ix"))
  | ((refine R.itlE (xs := ?xs) ?h ?q); (case h => walk_at "at")) | ((refine R.ittE (xs := ?xs) ?h ?q); (case h => walk_at "at"))
  | with_reducible refine R.itT ?_ | with_reducible refine R.itF ?_ | with_reducible refine R.itNT ?_ | with_reducible refine R.itNF ?_
  | (with_reducible refine R.tup ?_) | (with_reducible refine R.lst ?_))
local macro_rules | `(tactic| walk_at "rd") => `(tactic| (repeat (first | walk_at "r1" | (dsimp only [Int.reduceToNat, List.set_cons_succ, List.set_cons_zero, List.length_cons, List.length_nil, List.nil_append, List.cons_append, List.append_nil]))))
local macro_rules | `(tactic| walk_at "go") => `(tactic| (rw [R.start_eq]; dsimp only [R.startE, List.map_nil]; walk_at "rd"))
namespace KN
open PySem L2 SX C8 R
section
variable {P : Program} {w : World} {K : PySem.W.Frag} {mg : Str → Option Value} {base : Heap}
abbrev sRows : Stmt := top 20
theorem scRows : FnScope ["pool", "most", "high", "counts", "seen", "simple", "k", "multipliers", "value", "count", "rest", "row"] ["pool", "most", "high", "counts"] (fnScope sRows) := ⟨rfl, rfl, rfl, by decide +kernel, rfl, by decide +kernel, by decide +kernel⟩
/-- a row of simple words; of multipliers -/
structure SR where
  w : Str
  v : Int
structure MR where
  w : Str
  v : Int
  c : Option Int
  u : Bool
  r : Int
def ocnt : Option Int → V
  | none => .non
  | some i => .int i
def srV (r : SR) : List V := [.str r.w, .int r.v]
def mrV (m : MR) : List V := [.str m.w, .int m.v, ocnt m.c, .bl m.u, .int m.r]
structure GoodS (r : SR) : Prop where
  w : GoodW r.w
  lo : 1 ≤ r.v
  hi : r.v ≤ 100000
structure GoodM (m : MR) : Prop where
  w : GoodW m.w
  lo : 2 ≤ m.v
  hi : m.v ≤ 100000
  c : ∀ c, m.c = some c → 1 ≤ c ∧ c ≤ 100000 ∧ c * m.v + m.r ≤ 100000
  r0 : 0 ≤ m.r
  r1 : m.r < m.v
theorem ocnt_non (c : Option Int) : ocnt c = .non ↔ c.isNone = true := by
  cases c with
  | none => exact ⟨fun _ => rfl, fun _ => rfl⟩
  | some i => exact ⟨fun h => (nomatch (show V.int i = V.non from h)), fun h => nomatch h⟩
/-- the items are tuples of these -/
inductive TupsAt (H : Hp) : List V → List (List V) → Prop
  | nil : TupsAt H [] []
  | cons {a : Addr} {xs : List V} {d : List V} {ds : List (List V)} : H a = some (.tup d) → TupsAt H xs ds → TupsAt H (.ref a :: xs) (d :: ds)
def TupKeep (H H' : Hp) : Prop := ∀ a d, H a = some (.tup d) → H' a = some (.tup d)
theorem TupsAt.keep {H H' : Hp} (k : TupKeep H H') : ∀ {xs ds}, TupsAt H xs ds → TupsAt H' xs ds
  | _, _, .nil => .nil
  | _, _, .cons h t => .cons (k _ _ h) (TupsAt.keep k t)
theorem TupsAt.snoc {H : Hp} {a : Addr} {d : List V} (h : H a = some (.tup d)) : ∀ {xs ds}, TupsAt H xs ds → TupsAt H (xs ++ [.ref a]) (ds ++ [d])
  | _, _, .nil => .cons h .nil
  | _, _, .cons h' t => .cons h' (TupsAt.snoc h t)
theorem TupsAt.len {H : Hp} : ∀ {xs ds}, TupsAt H xs ds → xs.length = ds.length
  | _, _, .nil => rfl
  | _, _, .cons _ t => by rw [List.length_cons, List.length_cons, TupsAt.len t]
theorem TupsAt.get {H : Hp} : ∀ {xs ds}, TupsAt H xs ds → ∀ (i : Nat) (d : List V), ds[i]? = some d → ∃ a, xs[i]? = some (.ref a) ∧ H a = some (.tup d)
  | _, _, .nil, i, d, h => by simp at h
  | _, _, .cons h t, 0, d, e => by
    cases e
    exact ⟨_, rfl, h⟩
  | _, _, .cons h t, i + 1, d, e => TupsAt.get t i d e
theorem keep_new {H : Hp} {a : Addr} {o : HO} (n : H a = none) : TupKeep H (upd H a o) := fun b d h => by rw [upd_ne (ne_of_none h n)]; exact h
theorem keep_list {H : Hp} {a : Addr} {o : HO} {xs : List V} (n : H a = some (.lst xs)) : TupKeep H (upd H a o) := fun b d h => by
  rw [upd_ne (ne_of h n (by intro z; cases z))]; exact h
theorem keep_pool {H H' : Hp} {p l : Addr} (h : PoolAt H p l) (s : SameBut p H H') : TupKeep H H' := fun b d e => by
  obtain ⟨⟨cs, i, dd, z, h1, h2⟩, h4⟩ := h
  exact s b _ (ne_of e h1 (by intro z; cases z)) e
theorem keep_2 {H H' : Hp} {p l q : Addr} {xs : List V} (h : PoolAt H p l) (hq : H q = some (.lst xs)) (s : SameBut2 p q H H') : TupKeep H H' := fun b d e => by
  obtain ⟨⟨cs, i, dd, z, h1, h2⟩, h4⟩ := h
  exact s b _ (ne_of e h1 (by intro z; cases z)) (ne_of e hq (by intro z; cases z)) e
theorem keep_trans {H H1 H2 : Hp} (a : TupKeep H H1) (b : TupKeep H1 H2) : TupKeep H H2 := fun c d h => b c d (a c d h)
/-- what the first loop holds -/
structure LR (H0 H : Hp) (p l q s : Addr) (ws : List Str) (xs : List V) (ds : List (List V)) : Prop where
  sb : SameBut p H0 H
  P : PoolAt H p l
  hq : H q = some (.lst (ws.map V.str))
  hs : H s = some (.lst xs)
  ts : TupsAt H xs ds
  q0 : H0 q = none
  s0 : H0 s = none
  qp : q ≠ p
  ql : q ≠ l
  sp : s ≠ p
  sl : s ≠ l
  qs : q ≠ s
section
variable {H0 H H' : Hp} {p l q s m : Addr} {ws : List Str} {xs ys : List V} {ds es : List (List V)}
theorem LR.take (R : LR H0 H p l q s ws xs ds) (e : SameBut p H H') (P : PoolAt H' p l) : LR H0 H' p l q s ws xs ds :=
  ⟨R.sb.trans e, P, e _ _ R.qp R.hq, e _ _ R.sp R.hs, R.ts.keep (keep_pool R.P e), R.q0, R.s0, R.qp, R.ql, R.sp, R.sl, R.qs⟩
theorem LR.new {t : Addr} {o : HO} (R : LR H0 H p l q s ws xs ds) (n : H t = none) : LR H0 (upd H t o) p l q s ws xs ds :=
  ⟨R.sb.new n, R.P.new n, by rw [upd_ne (ne_of_none R.hq n)]; exact R.hq, by rw [upd_ne (ne_of_none R.hs n)]; exact R.hs, R.ts.keep (keep_new n), R.q0, R.s0, R.qp, R.ql, R.sp, R.sl, R.qs⟩
theorem LR.word {z : Str} (R : LR H0 H p l q s ws xs ds) (e : SameBut2 p q H H') (P : PoolAt H' p l) (hq : H' q = some (.lst ((ws ++ [z]).map V.str))) : LR H0 H' p l q s (ws ++ [z]) xs ds :=
  ⟨fun b o n h => e b o n (ne_of_none h R.q0) (R.sb b o n h), P, hq, e _ _ R.sp R.qs.symm R.hs, R.ts.keep (keep_2 R.P R.hq e), R.q0, R.s0, R.qp, R.ql, R.sp, R.sl, R.qs⟩
theorem LR.app {a : Addr} {d : List V} (R : LR H0 H p l q s ws xs ds) (h : H a = some (.tup d)) : LR H0 (upd H s (.lst (xs ++ [.ref a]))) p l q s ws (xs ++ [.ref a]) (ds ++ [d]) :=
  ⟨R.sb.put' R.s0, R.P.put R.sp R.sl, by rw [upd_ne R.qs]; exact R.hq, upd_same, (R.ts.keep (keep_list R.hs)).snoc (keep_list R.hs _ _ h), R.q0, R.s0, R.qp, R.ql, R.sp, R.sl, R.qs⟩
end
/-- what the second loop holds besides -/
structure LM (H0 H : Hp) (p l q s m : Addr) (ws : List Str) (xs : List V) (ds : List (List V)) (ys : List V) (es : List (List V)) : Prop where
  R : LR H0 H p l q s ws xs ds
  hm : H m = some (.lst ys)
  tm : TupsAt H ys es
  m0 : H0 m = none
  mp : m ≠ p
  ml : m ≠ l
  mq : m ≠ q
  ms : m ≠ s
section
variable {H0 H H' : Hp} {p l q s m : Addr} {ws : List Str} {xs ys : List V} {ds es : List (List V)}
theorem LM.take (M : LM H0 H p l q s m ws xs ds ys es) (e : SameBut p H H') (P : PoolAt H' p l) : LM H0 H' p l q s m ws xs ds ys es :=
  ⟨M.R.take e P, e _ _ M.mp M.hm, M.tm.keep (keep_pool M.R.P e), M.m0, M.mp, M.ml, M.mq, M.ms⟩
theorem LM.new {t : Addr} {o : HO} (M : LM H0 H p l q s m ws xs ds ys es) (n : H t = none) : LM H0 (upd H t o) p l q s m ws xs ds ys es :=
  ⟨M.R.new n, by rw [upd_ne (ne_of_none M.hm n)]; exact M.hm, M.tm.keep (keep_new n), M.m0, M.mp, M.ml, M.mq, M.ms⟩
theorem LM.same (M : LM H0 H p l q s m ws xs ds ys es) (e : Same H H') : LM H0 H' p l q s m ws xs ds ys es :=
  ⟨M.R.take (SameBut.of e) (M.R.P.same e), e _ _ M.hm, M.tm.keep (fun a d h => e _ _ h), M.m0, M.mp, M.ml, M.mq, M.ms⟩
theorem LM.word {z : Str} (M : LM H0 H p l q s m ws xs ds ys es) (e : SameBut2 p q H H') (P : PoolAt H' p l) (hq : H' q = some (.lst ((ws ++ [z]).map V.str))) : LM H0 H' p l q s m (ws ++ [z]) xs ds ys es :=
  ⟨M.R.word e P hq, e _ _ M.mp M.mq M.hm, M.tm.keep (keep_2 M.R.P M.R.hq e), M.m0, M.mp, M.ml, M.mq, M.ms⟩
theorem LM.app {a : Addr} {d : List V} (M : LM H0 H p l q s m ws xs ds ys es) (h : H a = some (.tup d)) : LM H0 (upd H m (.lst (ys ++ [.ref a]))) p l q s m ws xs ds (ys ++ [.ref a]) (es ++ [d]) :=
  ⟨⟨M.R.sb.put' M.m0, M.R.P.put M.mp M.ml, by rw [upd_ne M.mq.symm]; exact M.R.hq, by rw [upd_ne M.ms.symm]; exact M.R.hs, M.R.ts.keep (keep_list M.hm), M.R.q0, M.R.s0, M.R.qp, M.R.ql, M.R.sp, M.R.sl, M.R.qs⟩, upd_same, (M.tm.keep (keep_list M.hm)).snoc (keep_list M.hm _ _ h), M.m0, M.mp, M.ml, M.mq, M.ms⟩
end
theorem r_word {H : Hp} {Q : VK} {E : XK} {p l q : Addr} {ws : List Str} (P : PoolAt H p l) (qp : q ≠ p) (ql : q ≠ l) (hq : H q = some (.lst (ws.map V.str))) (hz : ws.length ≤ 60)
    (k : ∀ H' z, SameBut2 p q H H' → PoolAt H' p l → H' q = some (.lst ((ws ++ [z]).map V.str)) → GoodW z → z ∉ ws → Q (.str z) H') : spWord [.ref p, .ref q] H Q E := ⟨p, l, q, ws, rfl, P, qp, ql, hq, hz, k⟩
theorem nodup_snoc {α : Type} {l : List α} {a : α} (h : l.Nodup) (n : a ∉ l) : (l ++ [a]).Nodup := by
  rw [List.nodup_append]
  exact ⟨h, by simp, fun x hx y hy e => by rw [List.mem_singleton.mp hy] at e; exact n (e ▸ hx)⟩
structure RowS (high : Int) (r : SR) : Prop where
  w : GoodW r.w
  lo : 1 ≤ r.v
  hi : r.v ≤ high ∨ r.v ≤ 4
structure RowM (high counts : Int) (m : MR) : Prop where
  w : GoodW m.w
  lo : 2 ≤ m.v
  hi : m.v ≤ high + 1
  c : ∀ c, m.c = some c → 1 ≤ c ∧ c ≤ counts
  r0 : 0 ≤ m.r
  r1 : m.r < m.v
structure RowsOk (most high counts : Int) (rs : List SR) (ms : List MR) : Prop where
  s : ∀ r ∈ rs, RowS high r
  m : ∀ r ∈ ms, RowM high counts r
  nd : (rs.map (·.w) ++ ms.map (·.w)).Nodup
  sl : (rs.length : Int) ≤ most
  ml : ms.length ≤ 3
  one : (ms.filter fun r => r.c.isNone).length ≤ 1
def spRows : Sp := fun vs H Q _ => ∃ (p l : Addr) (most high counts : Int), vs = [.ref p, .int most, .int high, .int counts] ∧ PoolAt H p l ∧ 0 ≤ most ∧ most ≤ 20 ∧ 1 ≤ high ∧ high ≤ 100000 ∧ 1 ≤ counts ∧ counts ≤ 100000 ∧
  ∀ (H' : Hp) (t s m : Addr) (xs ys : List V) (rs : List SR) (ms : List MR), SameBut p H H' → PoolAt H' p l → H t = none → H s = none → H m = none → s ≠ m → H' t = some (.tup [.ref s, .ref m]) → H' s = some (.lst xs) → H' m = some (.lst ys) → s ≠ p → s ≠ l → m ≠ p → m ≠ l →
    TupsAt H' xs (rs.map srV) → TupsAt H' ys (ms.map mrV) → RowsOk most high counts rs ms → Q (.ref t) H'
theorem c_rows (Z : Zs mg) (c_take : Cal P w K mg base 2 "_law_take" spTake []) (c_word : Cal P w K mg base 3 "_law_word" spWord []) {f : Addr} {fd : FuncData} (F : Def K mg "_law_rows" sRows f fd) (b : Binds K fd ["pool", "most", "high", "counts"] []) : Cal P w K mg base 4 "_law_rows" spRows [] := by
  refine cal0 F b .nil scRows (fun vs H Q E h => ?_) (fun cdv A outer s H vs Q E hr h => ?_)
  · obtain ⟨p, l, most, high, counts, rfl, _⟩ := h
    rfl
  · obtain ⟨p, l, most, high, counts, rfl, hP, m0, m20, hi1, hi2, co1, co2, k⟩ := h
    refine ⟨_, pss_cons (ps_set (i := 4) scRows.nd rfl (Or.inl rfl) (pe_lst pa_nil))
      (pss_cons (ps_set (i := 5) scRows.nd rfl (Or.inl rfl) (pe_lst pa_nil))
      (pss_cut (ps_for PassesOwn.never rfl (pi_range1 (by rfl) Z.range (pa_cons (pe_c c_take hr (by omega) (by rfl) (pa_cons (pv 0) (pa_cons (pe_op op_add (pv 1) pe_int) pa_nil))) pa_nil)) (pg_name (i := 6) scRows.nd rfl (Or.inl rfl))
        (pss_one (ps_expr (kBM K (pe_bm PySem.F.plainAttrs_list PySem.F.slot_list_append PySem.F.type_list_append mt_append (pv 5) (pa_cons (pe_tup (pa_cons (pe_c c_word hr (by omega) (by rfl) (pa_cons (pv 0) (pa_cons (pv 4) pa_nil))) (pa_cons (pe_op op_add pe_int (pe_c c_take hr (by omega) (by rfl) (pa_cons (pv 0) (pa_cons (pe_ix (kIxT K) (pe_tup (pa_cons pe_int (pa_cons (pv 2) pa_nil))) (pe_c c_take hr (by omega) (by rfl) (pa_cons (pv 0) (pa_cons pe_int pa_nil))) (fun _ _ => rfl)) pa_nil)))) pa_nil))) pa_nil))))))
      (pss_cons (ps_set (i := 7) scRows.nd rfl (Or.inl rfl) (pe_lst pa_nil))
      (pss_cons (ps_for PassesOwn.never rfl (pi_range1 (by rfl) Z.range (pa_cons (pe_c c_take hr (by omega) (by rfl) (pa_cons (pv 0) (pa_cons pe_int pa_nil))) pa_nil)) (pg_name (i := 6) scRows.nd rfl (Or.inl rfl))
        (pss_cons (ps_set (i := 8) scRows.nd rfl (Or.inl rfl) (pe_op op_add pe_int (pe_c c_take hr (by omega) (by rfl) (pa_cons (pv 0) (pa_cons (pv 2) pa_nil)))))
      (pss_cons (ps_set (i := 9) scRows.nd rfl (Or.inl rfl) (pe_op op_add pe_int (pe_c c_take hr (by omega) (by rfl) (pa_cons (pv 0) (pa_cons (pv 3) pa_nil)))))
      (pss_cut (ps_if (PW.pt (pw_and (pt_cmpR op_eq (pe_c c_take hr (by omega) (by rfl) (pa_cons (pv 0) (pa_cons pe_int pa_nil))) pe_int (nomark _)) (pw_and1 (pt_not (pt_truth (pe_lc (own := [("row", 11)]) (g := gName 11) rfl scRows.nd (kiL K (pv 7)) (blkOk_by (own := [("row", 11)]) (N := ["pool", "most", "high", "counts", "seen", "simple", "k", "multipliers", "value", "count", "rest", "row"]) (sc := fnScope sRows) (by decide +kernel)) (fun _ _ _ _ _ => (pg_name (i := 11) scRows.nd rfl (Or.inl rfl))) (fun _ _ _ _ _ => pts_one (pt_cmpR oIs (pe_ix (kIxT K) (pv 11) pe_int (fun _ _ => rfl)) pe_non (nomark _))) (fun _ _ _ _ _ => pv 11)) (by intro _; rfl))))))
        (pss_one (ps_set (i := 9) scRows.nd rfl (Or.inl rfl) pe_non))
        (pss_nil))
      (pss_cons (ps_set (i := 10) scRows.nd rfl (Or.inl rfl) (pe_ix (kIxT K) (pe_tup (pa_cons pe_int (pa_cons (pe_op op_sub (pv 8) pe_int) (pa_cons (pe_c c_take hr (by omega) (by rfl) (pa_cons (pv 0) (pa_cons (pv 8) pa_nil))) pa_nil)))) (pe_c c_take hr (by omega) (by rfl) (pa_cons (pv 0) (pa_cons pe_int pa_nil))) (fun _ _ => rfl)))
      (pss_one (ps_expr (kBM K (pe_bm PySem.F.plainAttrs_list PySem.F.slot_list_append PySem.F.type_list_append mt_append (pv 7) (pa_cons (pe_tup (pa_cons (pe_c c_word hr (by omega) (by rfl) (pa_cons (pv 0) (pa_cons (pv 4) pa_nil))) (pa_cons (pv 8) (pa_cons (pv 9) (pa_cons (pe_cmpR op_eq (pe_c c_take hr (by omega) (by rfl) (pa_cons (pv 0) (pa_cons pe_int pa_nil))) pe_int (nomark _)) (pa_cons (pv 10) pa_nil)))))) pa_nil))))))))))
      (pss_one (ps_ret (pe_tup (pa_cons (pv 5) (pa_cons (pv 7) pa_nil))))))))), ?_⟩
    walk_at "go"
    refine ⟨by decide, fun q hq => ?_⟩
    walk_at "rd"
    refine ⟨by decide, fun s hs => ?_⟩
    have hs0 := free_new hs
    have sq : s ≠ q := ne_new hs
    obtain ⟨qp, ql⟩ := hP.nep hq
    obtain ⟨sp, sl⟩ := hP.nep hs0
    have R0 : LR H (upd (upd H q (.lst [])) s (.lst [])) p l q s [] [] [] :=
      ⟨(SameBut.refl.new hq).new hs, (hP.new hq).new hs, by rw [upd_ne sq.symm]; exact upd_same, upd_same, .nil, hq, hs0, qp, ql, sp, sl, sq.symm⟩
    generalize upd (upd H q (.lst [])) s (.lst []) = H1 at R0
    walk_at "rd"
    refine R.cut (fun σ' H' => ∃ (kv : Option V) (rs : List SR) (xs : List V), σ' = [some (.ref p), some (.int most), some (.int high), some (.int counts), some (.ref q), some (.ref s), kv, none, none, none, none, none] ∧
      LR H H' p l q s (rs.map (·.w)) xs (rs.map srV) ∧ (rs.length : Int) ≤ most ∧ (∀ r ∈ rs, RowS high r) ∧ (rs.map (·.w)).Nodup) ?_ ?_
    · walk_at "rd"
      refine r_take' R0.P (by omega) (by omega) (fun H2 n e2 P2 n0 n1 => ?_)
      have R2 := R0.take e2 P2
      walk_at "rd"
      refine for_it walk_range (fun i σ' H' => ∃ (kv : Option V) (rs : List SR) (xs : List V), σ' = [some (.ref p), some (.int most), some (.int high), some (.int counts), some (.ref q), some (.ref s), kv, none, none, none, none, none] ∧
        LR H H' p l q s (rs.map (·.w)) xs (rs.map srV) ∧ rs.length = i ∧ (∀ r ∈ rs, RowS high r) ∧ (rs.map (·.w)).Nodup) ⟨none, [], [], rfl, R2, rfl, (fun r h => nomatch h), List.nodup_nil⟩ (fun _ _ _ _ _ => trivial) ?_ ?_
      · rintro i x σ' H3 H3' hi ⟨kv, rs, xs, rfl, R3, hlen, hrs, hnd⟩ ⟨rfl, rfl⟩
        have hs3 := R3.hs
        walk_at "rd"
        refine r_word R3.P qp ql R3.hq (by rw [List.length_map]; omega) (fun H4 z e4 P4 hq4 gz nz => ?_)
        have R4 := R3.word e4 P4 hq4
        walk_at "rd"
        refine ⟨by decide, fun t ht => ?_⟩
        have R5 := R4.new (o := .tup [.int 4, .int high]) ht
        have ht5 : upd H4 t (.tup [V.int 4, .int high]) t = some (.tup [V.int 4, .int high]) := upd_same
        have tp := (R4.P.nep ht).1
        generalize upd H4 t (.tup [V.int 4, .int high]) = H5 at R5 ht5
        walk_at "rd"
        refine r_take' R5.P (by decide) (by decide) (fun H6 d6 e6 P6 l6 u6 => ?_)
        have R6 := R5.take e6 P6
        have ht6 := e6 _ _ tp ht5
        obtain ⟨v, hv, ev⟩ := atI_in (xs := [V.int 4, .int high]) l6 u6
        obtain ⟨h4, rfl, hh⟩ : ∃ h4 : Int, v = .int h4 ∧ (h4 = 4 ∨ h4 = high) := by
          simp only [List.mem_cons, List.not_mem_nil, or_false] at hv
          rcases hv with rfl | rfl
          · exact ⟨_, rfl, .inl rfl⟩
          · exact ⟨_, rfl, .inr rfl⟩
        walk_at "rd"
        refine r_take' R6.P (by omega) (by omega) (fun H7 d7 e7 P7 l7 u7 => ?_)
        have R7 := R6.take e7 P7
        walk_at "rd"
        refine ⟨by decide, fun a ha => ?_⟩
        have R8 := R7.new (o := .tup [.str z, .int (1 + d7)]) ha
        have ha8 : upd H7 a (.tup [V.str z, .int (1 + d7)]) a = some (.tup [V.str z, .int (1 + d7)]) := upd_same
        generalize upd H7 a (.tup [V.str z, .int (1 + d7)]) = H8 at R8 ha8
        walk_at "rd"
        have hxl : xs.length < 100 := by have := R8.ts.len; rw [List.length_map] at this; omega
        refine R.append R8.hs (small1000 (by omega)) ?_
        walk_at "rd"
        refine ⟨_, rs ++ [⟨z, 1 + d7⟩], xs ++ [.ref a], rfl, ?_, by simp [hlen], fun r hr => ?_, ?_⟩
        · rw [List.map_append, List.map_append]
          exact R8.app ha8
        · rcases List.mem_append.mp hr with h | h
          · exact hrs r h
          · rw [List.mem_singleton.mp h]
            exact ⟨gz, by show 1 ≤ 1 + d7; omega, by show 1 + d7 ≤ high ∨ 1 + d7 ≤ 4; omega⟩
        · rw [List.map_append]
          exact nodup_snoc hnd nz
      · rintro σ' H3 ⟨kv, rs, xs, rfl, R3, hlen, hrs, hnd⟩
        exact ⟨kv, rs, xs, rfl, R3, by omega, hrs, hnd⟩
    · rintro σ' H3 ⟨kv, rs, xs, rfl, R3, hlen, hrs, hnd⟩
      walk_at "rd"
      refine ⟨by decide, fun m hm => ?_⟩
      have hm0 : H m = none := by
        cases z : H m with
        | none => rfl
        | some o =>
          have mp' : m = p := by
            by_cases e : m = p
            · exact e
            · have := R3.sb _ _ e z
              rw [hm] at this
              cases this
          exact absurd mp' (R3.P.nep hm).1
      obtain ⟨mp, ml⟩ := R3.P.nep hm
      have M0 : LM H (upd H3 m (.lst [])) p l q s m (rs.map (·.w)) xs (rs.map srV) [] [] :=
        ⟨R3.new hm, upd_same, .nil, hm0, mp, ml, (ne_of_none R3.hq hm).symm, (ne_of_none R3.hs hm).symm⟩
      generalize upd H3 m (.lst []) = H4 at M0
      walk_at "rd"
      refine r_take' M0.R.P (by omega) (by omega) (fun H5 n e5 P5 n0 n1 => ?_)
      have M5 := M0.take e5 P5
      walk_at "rd"
      refine for_it walk_range (fun i σ' H' => ∃ (kv vv cv rv : Option V) (ms : List MR) (ys : List V), σ' = [some (.ref p), some (.int most), some (.int high), some (.int counts), some (.ref q), some (.ref s), kv, some (.ref m), vv, cv, rv, none] ∧
        LM H H' p l q s m (rs.map (·.w) ++ ms.map (·.w)) xs (rs.map srV) ys (ms.map mrV) ∧ ms.length = i ∧ (∀ r ∈ ms, RowM high counts r) ∧ (rs.map (·.w) ++ ms.map (·.w)).Nodup ∧ (ms.filter fun r => r.c.isNone).length ≤ 1)
        ⟨kv, none, none, none, [], [], rfl, by rw [List.map_nil, List.append_nil]; exact M5, rfl, (fun r h => nomatch h), by rw [List.map_nil, List.append_nil]; exact hnd, Nat.zero_le _⟩ (fun _ _ _ _ _ => trivial) ?_ ?_
      · rintro i x σ' H6 H6' hi ⟨kv, vv, cv, rv, ms, ys, rfl, M6, hml, hms, hnd2, hone⟩ ⟨rfl, rfl⟩
        walk_at "rd"
        refine r_take' M6.R.P (by omega) (by omega) (fun H7 d7 e7 P7 l7 u7 => ?_)
        have M7 := M6.take e7 P7
        walk_at "rd"
        refine r_take' M7.R.P (by omega) (by omega) (fun H8 d8 e8 P8 l8 u8 => ?_)
        have M8 := M7.take e8 P8
        walk_at "rd"
        refine R.cut (fun σ' H' => ∃ c : Option Int, σ' = [some (.ref p), some (.int most), some (.int high), some (.int counts), some (.ref q), some (.ref s), some (.int (0 + (i : Nat))), some (.ref m), some (.int (2 + d7)), some (ocnt c), rv, none] ∧
          LM H H' p l q s m (rs.map (·.w) ++ ms.map (·.w)) xs (rs.map srV) ys (ms.map mrV) ∧ (∀ c', c = some c' → 1 ≤ c' ∧ c' ≤ counts) ∧ (c = none → (ms.filter fun r => r.c.isNone).length = 0)) ?_ ?_
        · walk_at "rd"
          refine r_take' M8.R.P (by omega) (by omega) (fun H9 d9 e9 P9 l9 u9 => ?_)
          have M9 := M8.take e9 P9
          have stay : ∃ c : Option Int, [some (V.ref p), some (.int most), some (.int high), some (.int counts), some (.ref q), some (.ref s), some (.int (0 + (i : Nat))), some (.ref m), some (.int (2 + d7)), some (.int (1 + d8)), rv, none] = [some (.ref p), some (.int most), some (.int high), some (.int counts), some (.ref q), some (.ref s), some (.int (0 + (i : Nat))), some (.ref m), some (.int (2 + d7)), some (ocnt c), rv, none] ∧
            LM H H9 p l q s m (rs.map (·.w) ++ ms.map (·.w)) xs (rs.map srV) ys (ms.map mrV) ∧ (∀ c', c = some c' → 1 ≤ c' ∧ c' ≤ counts) ∧ (c = none → (ms.filter fun r => r.c.isNone).length = 0) :=
            ⟨some (1 + d8), rfl, M9, fun c' h => by cases h; omega, fun h => nomatch h⟩
          have hm9 := M9.hm
          walk_at "rd"
          refine it (fun h1 => ?_) (fun h1 => ?_)
          · walk_at "rd"
            intro D hD
            have hyl : ys.length = ms.length := by have := M9.tm.len; rwa [List.length_map] at this
            refine lc_it (walk_list (xs := ys)) (fun j H' => Same H9 H' ∧ ∃ acc, H' D = some (.lst acc) ∧ acc.length = ((ms.take j).filter fun r => r.c.isNone).length) ⟨same_new (Same.refl _) hD, [], upd_same, rfl⟩ (fun j H' _ hh => SqL.of (hh.1 _ _ hm9)) ?_ ?_
            · rintro j x H10 H10' hj ⟨s10, acc, hacc, hal⟩ ⟨rfl, hx⟩
              have hj' : j < ms.length := by omega
              have hmj : ms[j]? = some ms[j] := List.getElem?_eq_getElem hj'
              obtain ⟨a, hya, ha⟩ := M9.tm.get j (mrV ms[j]) (by rw [List.getElem?_map, hmj]; rfl)
              rw [hya] at hx
              cases hx
              have ha10 := s10 _ _ ha
              have et : ms.take (j + 1) = ms.take j ++ [ms[j]] := by rw [List.take_add_one, hmj]; rfl
              have hacl : acc.length < 100 := by
                have := List.length_filter_le (fun r : MR => r.c.isNone) (ms.take j)
                rw [List.length_take] at this
                omega
              refine R.gname ⟨rfl, ?_⟩
              walk_at "rd"
              refine it (fun h2 => ?_) (fun h2 => ?_)
              · walk_at "rd"
                refine ⟨acc, hacc, small1000 (by omega), same_put s10 hD, _, upd_same, ?_⟩
                have hn : ms[j].c.isNone = true := (ocnt_non _).mp h2
                rw [et, List.filter_append, List.filter_cons_of_pos (by exact hn), List.filter_nil, List.length_append, List.length_append, hal]
                rfl
              · refine ⟨s10, acc, hacc, ?_⟩
                have hn : ¬ ms[j].c.isNone = true := fun z => h2 ((ocnt_non _).mpr z)
                rw [et, List.filter_append, List.filter_cons_of_neg (by exact hn), List.filter_nil, List.append_nil]
                exact hal
            · rintro H10 ⟨s10, acc, hacc, hal⟩
              rw [hyl, List.take_of_length_le (Nat.le_refl _)] at hal
              have M10 := M9.same s10
              cases acc with
              | nil =>
                refine ⟨false, .inl ⟨[], SqL.of hacc, rfl⟩, ?_⟩
                walk_at "rd"
                exact ⟨none, rfl, M10, (fun c' h => nomatch h), fun _ => hal.symm⟩
              | cons y ys' =>
                refine ⟨true, .inl ⟨_, SqL.of hacc, rfl⟩, ?_⟩
                walk_at "rd"
                exact ⟨some (1 + d8), rfl, M10, fun c' h => by cases h; omega, fun h => nomatch h⟩
          · walk_at "rd"
            exact stay
        · rintro σ' H9 ⟨c, rfl, M9, hc1, hc2⟩
          walk_at "rd"
          refine r_take' M9.R.P (by omega) (by omega) (fun H10 d10 e10 P10 l10 u10 => ?_)
          have M10 := M9.take e10 P10
          walk_at "rd"
          refine ⟨by decide, fun t ht => ?_⟩
          have M11 := M10.new (o := .tup [.int 0, .int (2 + d7 - 1), .int d10]) ht
          have ht11 : upd H10 t (.tup [V.int 0, .int (2 + d7 - 1), .int d10]) t = some (.tup [V.int 0, .int (2 + d7 - 1), .int d10]) := upd_same
          have tp := (M10.R.P.nep ht).1
          generalize upd H10 t (.tup [V.int 0, .int (2 + d7 - 1), .int d10]) = H11 at M11 ht11
          walk_at "rd"
          refine r_take' M11.R.P (by omega) (by omega) (fun H12 d12 e12 P12 l12 u12 => ?_)
          have M12 := M11.take e12 P12
          have ht12 := e12 _ _ tp ht11
          obtain ⟨v, hv, ev⟩ := atI_in (xs := [V.int 0, .int (2 + d7 - 1), .int d10]) l12 u12
          obtain ⟨rr, rfl, rr0, rr1⟩ : ∃ rr : Int, v = .int rr ∧ 0 ≤ rr ∧ rr < 2 + d7 := by
            simp only [List.mem_cons, List.not_mem_nil, or_false] at hv
            rcases hv with rfl | rfl | rfl
            · exact ⟨_, rfl, by omega, by omega⟩
            · exact ⟨_, rfl, by omega, by omega⟩
            · exact ⟨_, rfl, by omega, by omega⟩
          have hm12 := M12.hm
          walk_at "rd"
          refine r_word M12.R.P qp ql M12.R.hq (by rw [List.length_append, List.length_map, List.length_map]; omega) (fun H13 z e13 P13 hq13 gz nz => ?_)
          have M13 := M12.word e13 P13 hq13
          walk_at "rd"
          refine r_take' M13.R.P (by omega) (by omega) (fun H14 d14 e14 P14 l14 u14 => ?_)
          have M14 := M13.take e14 P14
          walk_at "rd"
          refine ⟨by decide, fun a ha => ?_⟩
          have M15 := M14.new (o := .tup [.str z, .int (2 + d7), ocnt c, .bl (decide (d14 = 1)), .int rr]) ha
          have ha15 : upd H14 a (.tup [.str z, .int (2 + d7), ocnt c, .bl (decide (d14 = 1)), .int rr]) a = some (.tup [.str z, .int (2 + d7), ocnt c, .bl (decide (d14 = 1)), .int rr]) := upd_same
          generalize upd H14 a (.tup [.str z, .int (2 + d7), ocnt c, .bl (decide (d14 = 1)), .int rr]) = H15 at M15 ha15
          walk_at "rd"
          have hyl : ys.length = ms.length := by have := M15.tm.len; rwa [List.length_map] at this
          refine R.append M15.hm (small1000 (by omega)) ?_
          walk_at "rd"
          refine ⟨some (.int (0 + (i : Nat))), some (.int (2 + d7)), some (ocnt c), some (.int rr), ms ++ [⟨z, 2 + d7, c, decide (d14 = 1), rr⟩], ys ++ [.ref a], rfl, ?_, by simp [hml], fun r hr => ?_, ?_, ?_⟩
          · rw [List.map_append, List.map_append, ← List.append_assoc]
            exact M15.app ha15
          · rcases List.mem_append.mp hr with h | h
            · exact hms r h
            · rw [List.mem_singleton.mp h]
              exact ⟨gz, by show 2 ≤ 2 + d7; omega, by show 2 + d7 ≤ high + 1; omega, hc1, rr0, rr1⟩
          · rw [List.map_append, ← List.append_assoc]
            exact nodup_snoc hnd2 nz
          · rw [List.filter_append, List.length_append]
            cases c with
            | none => have := hc2 rfl; rw [this]; exact Nat.le_refl _
            | some c' => exact hone
      · rintro σ' H6 ⟨kv, vv, cv, rv, ms, ys, rfl, M6, hml, hms, hnd2, hone⟩
        walk_at "rd"
        refine ⟨by decide, fun t ht => ?_⟩
        have M7 := M6.new (o := .tup [.ref s, .ref m]) ht
        refine k _ t s m xs ys rs ms M7.R.sb M7.R.P ?_ hs0 hm0 M6.ms.symm upd_same M7.R.hs M7.hm sp sl mp ml M7.R.ts M7.tm ⟨hrs, hms, hnd2, hlen, by omega, hone⟩
        cases z : H t with
        | none => rfl
        | some o =>
          have tp' : t = p := by
            by_cases e : t = p
            · exact e
            · have := M6.R.sb _ _ e z
              rw [ht] at this
              cases this
          exact absurd tp' (M6.R.P.nep ht).1
end
end KN
end
section
set_option Elab.async false
set_option linter.all false
set_option maxRecDepth 100000
set_option maxHeartbeats 4000000
/-! enumerate(t), t a tuple -/
namespace PySem
set_option maxRecDepth 100000
/-- enumerate of one argument whose iterator is known -/
theorem enum1_meets {v : Value} {o : Obj} {G : Heap → Prop} (B : Begins v o G) :
    Meets (Builtin.«enumerate.__new__» ⟨[.type "enumerate", v], []⟩)
      (fun _ R s => G s.heap ∧ R (.ok (.ret (.ref (s.heap.push o).objs.size)))
        { s with heap := (s.heap.push o).push { cls := .type "enumerate", data := .fields #[.none, .bool false, .ref s.heap.objs.size, rawInt 0, .none, .none] } }) :=
  .of_wp fun prog w A R s hs => by
    obtain ⟨hp, gs, dr, tk, os⟩ := s
    obtain ⟨g1, r1⟩ := hs
    have hsub := sub_enumerate
    have it1 : ∀ {A' : Around} {E : Value → Shared → Prop} {Q : Value → Shared → Prop},
        Q (.ref hp.objs.size) ⟨hp.push o, gs, dr, tk, os⟩ → wpAny (model prog w) A' (pyIter v) Q E ⟨hp, gs, dr, tk, os⟩ :=
      fun z => B.iter prog w _ _ ⟨hp, gs, dr, tk, os⟩ _ g1 z
    wp_walk using it1
    refine wpAny_stack_any fun st => wpAny_pure ?_
    split
    · rename_i c _ _ _ _ _
      cases (c == Value.type "enumerate")
      · wp_walk using it1
        exact ⟨_, rfl, r1⟩
      · wp_walk using it1
        exact ⟨_, rfl, r1⟩
    · wp_walk using it1
      exact ⟨_, rfl, r1⟩
section
variable {prog : Program} {w : World} {A : Around} {E : Value → Shared → Prop} {s : Shared}
/-- its two new objects: the iterator, the enumerate -/
theorem enum1_call {v : Value} {o : Obj} {G : Heap → Prop} {Q : Value → Shared → Prop} (B : Begins v o G) (g1 : G s.heap)
    (k : ∀ h', IsEnum h' (s.heap.objs.size + 1) s.heap.objs.size 0 .none → h'.get? s.heap.objs.size = some o →
      (∀ b o', s.heap.get? b = some o' → h'.get? b = some o') → Q (.ref (s.heap.objs.size + 1)) { s with heap := h' }) :
    wpAny (model prog w) A (call (.type "enumerate") [v]) Q E s := by
  refine callType_new F.called_enumerate (by decide) (F.typeCall_enumerate_1 _) (F.newCall_enumerate_1 _)
    (fun obj => F.args_object_init_2 obj _) F.entry_enumerate_new (enum1_meets B) ⟨g1, ?_⟩
  have sz : (s.heap.push o).objs.size = s.heap.objs.size + 1 := Heap.size_push ..
  show _ ∧ _
  rw [sz]
  generalize hx : ({ cls := .type "enumerate", data := .fields #[.none, .bool false, .ref s.heap.objs.size, rawInt 0, .none, .none] } : Obj) = x
  have hxf : x.isFreed = false := by rw [← hx]; rfl
  have at1 : ((s.heap.push o).push x).get? (s.heap.objs.size + 1) = some x := by
    have z := Heap.get?_push_size (s.heap.push o) (o := x) hxf
    rwa [sz] at z
  have at0 : ((s.heap.push o).push x).get? s.heap.objs.size = some o := Heap.get?_push_of_some _ (Heap.get?_push_size _ B.free)
  have old : ∀ b o', s.heap.get? b = some o' → ((s.heap.push o).push x).get? b = some o' := fun b o' z => Heap.get?_push_of_some _ (Heap.get?_push_of_some _ z)
  subst hx
  exact ⟨⟨_, at1, rfl⟩, k _ at1 at0 old⟩
end
end PySem
namespace R
open PySem PySem.Spec PyProof.Rows L2
/-- enumerate of the tuple at a -/
def Itet (K : PySem.W.Frag) (a : Addr) : It where
  go := fun i H => ∃ (xs : List V) (x : V), SqT K H a xs ∧ xs[i]? = some x
  yld := fun i H v H' => ∃ T x, v = .ref T ∧ H T = none ∧ H' = upd H T (.tup [.int (i : Nat), x]) ∧ ∀ xs, SqT K H a xs → xs[i]? = some x
  stop := fun i H => ∃ xs : List V, SqT K H a xs ∧ xs.length ≤ i
theorem turn_enumT {P : Program} {w : World} {K : PySem.W.Frag} {elts : List Expr} {kk : Nat} {tpos : Pos} (a e it : Addr) :
    Turn P w K (.Tuple elts kk tpos) (Itet K a) [e, it] e (fun i h => (∃ old, IsEnum h e it ((i : Nat) : Int) old) ∧ h.IsTupleIter it a i ∧ e ≠ it ∧ a ≠ it ∧ e ≠ a) where
  mem := by simp
  obj := fun i h st b hb => by
    obtain ⟨⟨old, he⟩, ⟨o, ho, hc, hd⟩, _⟩ := st
    have e' : b = e ∨ b = it := by simpa using hb
    rcases e' with rfl | rfl
    · exact ⟨_, he, fun v q => nomatch q⟩
    · exact ⟨o, ho, fun v q => by rw [hd] at q; cases q⟩
  keep := fun i h h' st k => by
    obtain ⟨⟨old, he⟩, hi, n1, n2, n3⟩ := st
    exact ⟨⟨old, k e (by simp) _ he⟩, hi.at fun o q => k it (by simp) o q, n1, n2, n3⟩
  item := by
    intro X hP hw hK hc i pins s σ H E I hf st hg
    subst hP hw hK
    obtain ⟨⟨old, he⟩, hit, n1, n2, n3⟩ := st
    obtain ⟨xs, x, hq, hx⟩ := hg
    obtain ⟨its, rv, p, hz⟩ := I.tuple hq
    have p' : s.heap.IsTuple a its.toArray := p
    have hel : e < s.heap.objs.size := Heap.lt_size he
    have hil : it < s.heap.objs.size := by obtain ⟨_, q, _⟩ := hit; exact Heap.lt_size q
    have hlt : i < its.toArray.size := by
      have := (List.getElem?_eq_some_iff.mp hx).1
      have := rv.length
      simp; omega
    have hh : X.A.in1.handled = none := I.ok.hd hc
    refine wpAny_pyNext_enum_itemD (Draws.tuple hh it a n2 its.toArray) he ⟨hit, p'⟩ hlt n1 (by simp [n1, n3]) fun u h' tk hu ho st' hT hsz hk => ?_
    refine ⟨_, rfl, wpAny_letOwnedTupleGo_enum (s := { s with heap := h', toks := tk + 1 }) ho fun h'' he' sb => ?_⟩
    have hu' : its[i]? = some u := by simpa using hu
    obtain ⟨u2, hu2, ru⟩ := rv.get hx
    have eu : u2 = u := Option.some.inj (hu2.symm.trans hu')
    subst eu
    have hT2 : h''.get? s.heap.objs.size = some { cls := .type "tuple", data := .seq #[.int i tk, u2] } := (sb.2 _ (Nat.ne_of_gt hel)).trans hT
    have new : ObjOk X.prog X.w (upd H s.heap.objs.size (.tup [.int (i : Nat), x])) h'' s.heap.objs.size (.tup [.int (i : Nat), x]) :=
      ⟨by show 2 ≤ sizeLine; decide, [.int i tk, u2], .cons ⟨_, rfl⟩ (.cons ru .nil), ⟨_, hT2, rfl, _, rfl⟩⟩
    have far : ∀ b ob, b ∉ [e, it] → s.heap.get? b = some ob → h''.get? b = some ob := fun b ob hb q => by
      have b1 : b ≠ e := fun z => hb (by simp [z])
      have b2 : b ≠ it := fun z => hb (by simp [z])
      exact (sb.2 b b1).trans (hk b ob b1 b2 q)
    have I1 : Inv X pins σ (upd H s.heap.objs.size (.tup [.int (i : Nat), x])) { s with heap := h'', toks := tk + 1 } :=
      I.turnedNew (ch := [e, it]) far hf (Nat.le_refl _) new
    refine ⟨.ref s.heap.objs.size, _, I1, rfl, ⟨_, x, rfl, I.hok.fresh (Nat.le_refl _), rfl, fun ys hy => by rw [I.tuple_inj hy hq]; exact hx⟩, ⟨⟨u2, ?_⟩, st'.1.at fun o q => (sb.2 it (Ne.symm n1)).trans q, n1, n2, n3⟩, fun b hb => ?_⟩
    · have e1 : ((i + 1 : Nat) : Int) = (i : Int) + 1 := by omega
      rw [e1]; exact he'
    · have hb' : b < s.heap.objs.size := by
        have e' : b = e ∨ b = it := by simpa using hb
        rcases e' with rfl | rfl
        · exact hel
        · exact hil
      rw [upd_ne (Nat.ne_of_lt hb')]
      exact (hf b hb).1
  done := by
    intro X hP hw hK hc i pins s σ H E I hf st hg
    subst hP hw hK
    obtain ⟨⟨old, he⟩, hit, n1, n2, n3⟩ := st
    obtain ⟨xs, hq, hx⟩ := hg
    obtain ⟨its, rv, p, hz⟩ := I.tuple hq
    have hh : X.A.in1.handled = none := I.ok.hd hc
    have hl := rv.length
    have p' : s.heap.IsTuple a its.toArray := p
    have hT : s.TypeIs (.ref e) "enumerate" := ⟨_, he, rfl⟩
    obtain ⟨f0, f1, f2, f3, f4, f5⟩ := hf it (by simp)
    have none_left : its.toArray[i]? = none := by simp; omega
    unfold pyNext
    refine wpAny_bind (wpAny_attempt (wpAny_callSpecial?_slot (name := Str.ofString "__next__") hT PySem.F.slot_enumerate_next
      (wpAny_call_entry PySem.F.slot_enumerate_next hT PySem.F.entry_enumerate_next ?_ (PySem.F.args_enumerate_next_1 _))))
    show wpAny _ _ (field (.ref e) 2 >>= _) _ _ _
    refine wpAny_bind (wpAny_field he rfl (x := .ref it) rfl ?_)
    refine wpAny_bind (wpAny_nextOf_tuple_end hh hit p' none_left fun h' x eb hx' => ?_)
    obtain ⟨o, ho, hc'⟩ := hx'
    refine wpAny_bind (wpAny_isInstance (T := "StopIteration") (b := true) ⟨o, ho, hc'⟩ isSubtype_stop ?_)
    exact wpAny_pure ⟨rfl, I.turned (t' := s.toks) (fun b o hb q => eb b o hb q) f0 f1 f3 f4 f5⟩
  self := fun A i s Q E st h => by
    obtain ⟨⟨_, he⟩, _⟩ := st
    exact wpAny_pyIter_enum he h
/-! things that may be lists or tuples -/
def SeqA (H : Hp) (a : Addr) (xs : List V) : Prop := H a = some (.lst xs) ∨ H a = some (.tup xs)
section
variable {X : Cx} (K : PySem.W.Frag)
def gSeq (K : PySem.W.Frag) (n : Nat) (t : TGs) : TG := fun v σ H Q => ∃ a xs, v = .ref a ∧ SeqA H a xs ∧ xs.length = n ∧ t xs σ H Q
theorem kgSeq {es : List Expr} {k : Nat} {t : TGs} {n : Nat} {pos : Pos} (hc : X.calm = true) (h : PGs X es t)
    (hn : (assignEach es X.env).length = n := by rfl) (hst : (assignEach es X.env).findIdx? (·.1) = none := by rfl) (e : X.K = K := by rfl) : PG X (.Tuple es k pos) (gSeq K n t) := by
  refine ⟨fun pins s σ H v u Q I r hw => ?_⟩
  obtain ⟨a, xs, e1, hq, hl, hw⟩ := hw
  rcases hq with hq | hq
  · exact (pg_lst hc h hn hst).run pins s σ H v u Q I r ⟨a, xs, e1, SqL.of hq, hl, hw⟩
  · exact (pg_tup hc h hn hst).run pins s σ H v u Q I r ⟨a, xs, e1, SqT.of hq, hl, hw⟩
theorem kgTup {es : List Expr} {k : Nat} {t : TGs} {n : Nat} {pos : Pos} (hc : X.calm = true) (h : PGs X es t)
    (hn : (assignEach es X.env).length = n := by rfl) (hst : (assignEach es X.env).findIdx? (·.1) = none := by rfl) (e : X.K = K := by rfl) : PG X (.Tuple es k pos) (gTup K n t) := e ▸ pg_tup hc h hn hst
def rIxA (K : PySem.W.Frag) : R2 := fun x y H Q => ∃ p xs i v, x = .ref p ∧ y = .int i ∧ SeqA H p xs ∧ atI xs i = some v ∧ Q v H
theorem kIxA (h : X.K = K := by rfl) : IxR X (rIxA K) := by
  have z : IxR X (rIx X.K) := ix_seq
  intro value slice pins s σ H x y v u Q I rx ry h0 hs
  obtain ⟨p, xs, i, w, e1, e2, hq, ha, q⟩ := h0
  rcases hq with hq | hq
  · exact z value slice pins s σ H x y v u Q I rx ry (.inl ⟨p, xs, i, w, e1, e2, SqL.of hq, ha, q⟩) hs
  · exact z value slice pins s σ H x y v u Q I rx ry (.inr (.inl ⟨p, xs, i, w, e1, e2, SqT.of hq, ha, q⟩)) hs
/-- a walk over a list or a tuple -/
def iSeq (K : PySem.W.Frag) (tl : TE) : TI := fun σ H R => tl σ H fun x H1 => ∃ a xs, x = .ref a ∧ ((H1 a = some (.lst xs) ∧ R (Itl K a) H1) ∨ (H1 a = some (.tup xs) ∧ R (Itt K a) H1))
theorem kiSeq {tg l : Expr} {tl : TE} (hl : PE X l tl) (h : X.K = K := by rfl) : PI X tg l (iSeq K tl) := by
  subst h
  refine ⟨fun pins s σ H R I h => ?_⟩
  refine thn (hl.run pins s σ H _ I h) fun v s1 hv => ?_
  obtain ⟨x, H1, I1, r1, a, xs, rfl, q⟩ := hv
  cases r1
  have own : ∀ b ∈ [s1.heap.objs.size], FpOk X pins H1 b := fun b hb => by
    obtain rfl : b = s1.heap.objs.size := by simpa using hb
    exact I1.fpOk (Nat.le_refl _) (I1.hok.fresh (Nat.le_refl _))
  rcases q with ⟨hq, q⟩ | ⟨hq, q⟩
  · obtain ⟨its, rv, p, hz⟩ := I1.list (SqL.of hq)
    refine wpAny_pyIter_list p.isList ?_
    exact ⟨s1.heap.objs.size, [s1.heap.objs.size], _, _, H1, rfl, I1.kept (t' := s1.toks) fun b o e => Heap.get?_push_of_some _ e, turn_list a _, ⟨_, Heap.get?_push_size _ rfl, rfl, rfl⟩, own, q⟩
  · obtain ⟨its, rv, p, hz⟩ := I1.tuple (SqT.of hq)
    refine wpAny_pyIter_tuple (show s1.heap.IsTuple a its.toArray from p) ?_
    exact ⟨s1.heap.objs.size, [s1.heap.objs.size], _, _, H1, rfl, I1.kept (t' := s1.toks) fun b o e => Heap.get?_push_of_some _ e, turn_tuple a _, ⟨_, Heap.get?_push_size _ rfl, rfl, rfl⟩, own, q⟩
/-- enumerate of a list or a tuple -/
def iEnumA (K : PySem.W.Frag) (ta : TA) : TI := fun σ H R => ta σ H fun vs H1 => ∃ a xs, vs = [.ref a] ∧ ((H1 a = some (.lst xs) ∧ R (Ite K a) H1) ∨ (H1 a = some (.tup xs) ∧ R (Itet K a) H1))
theorem kiEnum {e : Expr} {ta : TA} {p pos tpos : Pos} {elts : List Expr} {kk : Nat} (hg : Gl X "enumerate") (hm : X.mg "enumerate" = none) (ha : PA X [e] ta)
    (hs : starEach [e] X.env = [(false, eval e X.env)] := by rfl) (h : X.K = K := by rfl) : PI X (.Tuple elts kk tpos) (.Call (.Name "enumerate" p) [e] [] pos) (iEnumA K ta) := by
  subst h
  refine ⟨fun pins s σ H R I h => ?_⟩
  refine Call_ (ld_blt I hg hm boot_enumerate (PyProof.Rows.callWith_type1 (thn (ha.run pos pins s σ H _ I h) fun us s1 hv => ?_) hs rfl))
  obtain ⟨vs, H1, I1, r1, a, xs, rfl, q⟩ := hv
  cases r1 with
  | cons r rr =>
    cases rr
    cases r
    have own : ∀ b ∈ [s1.heap.objs.size + 1, s1.heap.objs.size], FpOk X pins H1 b := fun b hb => by
      have e' : b = s1.heap.objs.size + 1 ∨ b = s1.heap.objs.size := by simpa using hb
      have hle : s1.heap.objs.size ≤ b := by
        rcases e' with z | z
        · rw [z]; exact Nat.le_add_right _ _
        · rw [z]; exact Nat.le_refl _
      exact I1.fpOk hle (I1.hok.fresh hle)
    rcases q with ⟨hq, q⟩ | ⟨hq, q⟩
    · obtain ⟨its, rv, p', hz⟩ := I1.list (SqL.of hq)
      refine call_enumerate_list p'.isList fun h' he hit hsz hk => wpAny_pyIter_enum he ?_
      have I2 : Inv X pins σ H1 { s1 with heap := h' } := I1.kept (t' := s1.toks) hk
      exact ⟨s1.heap.objs.size + 1, [s1.heap.objs.size + 1, s1.heap.objs.size], _, _, H1, rfl, I2, turn_enum a (s1.heap.objs.size + 1) s1.heap.objs.size, ⟨⟨.none, he⟩, hit, Nat.succ_ne_self _⟩, own, q⟩
    · obtain ⟨its, rv, p', hz⟩ := I1.tuple (SqT.of hq)
      have ht : s1.heap.IsTuple a its.toArray := p'
      have hal : a < s1.heap.objs.size := by obtain ⟨o, ho, _⟩ := ht; exact Heap.lt_size ho
      refine enum1_call (begins_tuple a its.toArray) ht fun h' he hit hk => wpAny_pyIter_enum he ?_
      have I2 : Inv X pins σ H1 { s1 with heap := h' } := I1.kept (t' := s1.toks) hk
      exact ⟨s1.heap.objs.size + 1, [s1.heap.objs.size + 1, s1.heap.objs.size], _, _, H1, rfl, I2, turn_enumT a (s1.heap.objs.size + 1) s1.heap.objs.size, ⟨⟨.none, he⟩, ⟨_, hit, rfl, rfl⟩, Nat.succ_ne_self _, Nat.ne_of_lt hal, Nat.ne_of_gt (Nat.lt_succ_of_lt hal)⟩, own, q⟩
end
theorem walk_enumT {K : PySem.W.Frag} {a : Addr} {xs : List V} : Walk (Itet K a) xs.length (fun H => SqT K H a xs) (YPair (fun i => some (.int (i : Nat))) (fun i => xs[i]?)) := by
  refine ⟨fun i _ hi q => ⟨xs, xs[i], q, by simp [hi]⟩, fun _ q => ⟨xs, q, Nat.le_refl _⟩, fun i H v H' _ q y => ?_⟩
  obtain ⟨T, x, h1, h2, h3, h4⟩ := y
  exact ⟨T, .int (i : Nat), x, h1, h2, h3, rfl, h4 xs q⟩
section
variable {σ : L2.St} {H : Hp} {te : TE} {ar : TA} {K : PySem.W.Frag} {i : Int} {v : V} {a p : Addr} {xs : List V} {Q : VK} {QS : L2.St → Hp → Prop}
theorem gseq {n : Nat} {tg : TGs} (h : SeqA H a xs) (e : xs.length = n) (q : tg xs σ H QS) : gSeq K n tg (.ref a) σ H QS := ⟨a, xs, rfl, h, e, q⟩
theorem ixA (h : SeqA H p xs) (e : atI xs i = some v) (q : Q v H) : rIxA K (.ref p) (.int i) H Q := ⟨p, xs, i, v, rfl, rfl, h, e, q⟩
theorem lenA (h : SeqA H p xs) (q : Q (.int xs.length) H) : rLenS K [.ref p] H Q := by
  rcases h with h | h
  · exact lenL h q
  · exact lenT (SqT.of h) q
theorem tupA (h : SeqA H p xs) (h1 : ∀ l, H l = none → Q (.ref l) (upd H l (.tup xs))) (h2 : H p = some (.tup xs) → Q (.ref p) H) : rTupS K [.ref p] H Q := by
  rcases h with h | h
  · exact tupL h h1
  · exact tupT (SqT.of h) (h2 h)
theorem itseq {R : It → Hp → Prop} (q : te σ H fun x H1 => ∃ a xs, x = .ref a ∧ ((H1 a = some (.lst xs) ∧ R (Itl K a) H1) ∨ (H1 a = some (.tup xs) ∧ R (Itt K a) H1))) : iSeq K te σ H R := q
theorem itenum {R : It → Hp → Prop} (q : ar σ H fun vs H1 => ∃ a xs, vs = [.ref a] ∧ ((H1 a = some (.lst xs) ∧ R (Ite K a) H1) ∨ (H1 a = some (.tup xs) ∧ R (Itet K a) H1))) : iEnumA K ar σ H R := q
theorem SeqA.same {H H' : Hp} (s : Same H H') (h : SeqA H a xs) : SeqA H' a xs := h.elim (fun z => .inl (s _ _ z)) (fun z => .inr (s _ _ z))
theorem SeqA.new {o : HO} (h : SeqA H a xs) (n : H p = none) : SeqA (upd H p o) a xs := SeqA.same (same_new (Same.refl H) n) h
/-- a for over enumerate of either -/
theorem for_enum {g : TG} {tb : TS} {D : Ends} {σ : L2.St} {H : Hp} (h : SeqA H a xs) (Pv : Nat → L2.St → Hp → Prop) (h0 : Pv 0 σ H) (hG : ∀ i σ' H', i ≤ xs.length → Pv i σ' H' → ∀ o, H a = some o → H' a = some o)
    (hs : ∀ i x σ' H' T, xs[i]? = some x → Pv i σ' H' → H' T = none → g (.ref T) σ' (upd H' T (.tup [.int (i : Nat), x])) fun σ2 H2 => tb { D with nx := Pv (i + 1), ct := Pv (i + 1), bk := D.nx } σ2 H2)
    (hd : ∀ σ' H', Pv xs.length σ' H' → D.nx σ' H') : ∃ a' xs', [V.ref a] = [.ref a'] ∧ ((H a' = some (.lst xs') ∧ ForW (Ite K a') g tb D σ H) ∨ (H a' = some (.tup xs') ∧ ForW (Itet K a') g tb D σ H)) := by
  rcases h with h | h
  · refine ⟨a, xs, rfl, .inl ⟨h, ?_⟩⟩
    refine for_it (walk_enum (K := K) (a := a) (xs := xs)) Pv h0 (fun i σ' H' hi hp => SqL.of (hG i σ' H' hi hp _ h)) ?_ hd
    rintro i x σ' H' H2 hi hp ⟨T, x1, x2, rfl, hT, rfl, e1, e2⟩
    cases e1
    exact hs i x2 σ' H' T e2 hp hT
  · refine ⟨a, xs, rfl, .inr ⟨h, ?_⟩⟩
    refine for_it (walk_enumT (K := K) (a := a) (xs := xs)) Pv h0 (fun i σ' H' hi hp => SqT.of (hG i σ' H' hi hp _ h)) ?_ hd
    rintro i x σ' H' H2 hi hp ⟨T, x1, x2, rfl, hT, rfl, e1, e2⟩
    cases e1
    exact hs i x2 σ' H' T e2 hp hT
/-- a comprehension over either -/
theorem lc_seq {g : TG} {tt : TT} {te : TE} {ws : List Nat} {σ : L2.St} {H : Hp} {QQ : VK} (h : SeqA H a xs) (Pv : Addr → Nat → Hp → Prop) (h0 : ∀ D, H D = none → Pv D 0 (upd H D (.lst []))) (hG : ∀ D i H', i ≤ xs.length → Pv D i H' → ∀ o, H a = some o → H' a = some o)
    (hs : ∀ D i x H', H D = none → xs[i]? = some x → Pv D i H' → g x (wipe σ ws) H' fun σ2 H2 => wipe σ2 ws = wipe σ ws ∧ tt σ2 H2 fun b H3 => if b = true then te σ2 H3 fun y H4 => ∃ acc, H4 D = some (.lst acc) ∧ acc.length < sizeLine ∧ Pv D (i + 1) (upd H4 D (.lst (acc ++ [y]))) else Pv D (i + 1) H3)
    (hd : ∀ D H', H D = none → Pv D xs.length H' → QQ (.ref D) H') :
    ∃ a' xs', V.ref a = .ref a' ∧ ((H a' = some (.lst xs') ∧ ∀ D, H D = none → LcW (Itl K a') g tt te ws σ H D QQ) ∨ (H a' = some (.tup xs') ∧ ∀ D, H D = none → LcW (Itt K a') g tt te ws σ H D QQ)) := by
  rcases h with h | h
  · refine ⟨a, xs, rfl, .inl ⟨h, fun D hD => ?_⟩⟩
    refine lc_it (walk_list (K := K) (a := a) (xs := xs)) (Pv D) (h0 D hD) (fun i H' hi hp => SqL.of (hG D i H' hi hp _ h)) ?_ (fun H' hp => hd D H' hD hp)
    rintro i x H' H2 hi hp ⟨rfl, e⟩
    exact hs D i x H2 hD e hp
  · refine ⟨a, xs, rfl, .inr ⟨h, fun D hD => ?_⟩⟩
    refine lc_it (walk_tup (K := K) (a := a) (xs := xs)) (Pv D) (h0 D hD) (fun i H' hi hp => SqT.of (hG D i H' hi hp _ h)) ?_ (fun H' hp => hd D H' hD hp)
    rintro i x H' H2 hi hp ⟨rfl, e⟩
    exact hs D i x H2 hD e hp
end
section
variable {Q : VK} {H : Hp} {A B : Prop}
theorem bT {b : Bool} (h : b = true) (q : Q (.bl true) H) : Q (.bl b) H := h ▸ q
theorem b_ {b c : Bool} (h : b = c) (q : Q (.bl c) H) : Q (.bl b) H := h ▸ q
/-- a test whose answer is a Bool -/
theorem itB {b : Bool} (h1 : b = true → A) (h2 : b = false → B) : if b = true then A else B := by
  cases b with
  | true => exact h1 rfl
  | false => exact h2 rfl
theorem itBn {b : Bool} (h1 : b = false → A) (h2 : b = true → B) : if (!b) = true then A else B := by
  cases b with
  | true => exact h2 rfl
  | false => exact h1 rfl
theorem itP {b : Bool} : True := trivial
end
/-! dicts whose keys are texts -/
section
variable {σ : L2.St} {H : Hp} {td ty tv : TE} {d : Addr} {kvs : List (Key × V)} {z : Str} {v : V} {Q : VK} {D : Ends}
theorem dnew (q : ∀ p, H p = none → Q (.ref p) (upd H p (.dK []))) : tDNewK σ H Q := q
theorem din_ (q : ty σ H fun y H1 => td σ H1 fun x H2 => ∃ a o, x = .ref a ∧ DGet H2 a y o ∧ Q (.bl o.isSome) H2) : tDIn ty td σ H Q := q
theorem din {QO : Option V → Prop} (h : H d = some (.dK kvs)) (q : QO (valV kvs (Sum.inr z : Key))) : ∃ a o, V.ref d = .ref a ∧ DGet H a (.str z) o ∧ QO o :=
  ⟨d, valV kvs (Sum.inr z : Key), rfl, DGet.k (k := (Sum.inr z : Key)) h, q⟩
theorem dput_ (q : tv σ H fun v H1 => td σ H1 fun x H2 => ty σ H2 fun y H3 => ∃ a H4, x = .ref a ∧ DPut H3 a y v H4 ∧ D.nx σ H4) : sDPut td ty tv D σ H := q
theorem dput {QH : Hp → Prop} (h : H d = some (.dK kvs)) (hl : kvs.length < sizeLine) (q : QH (upd H d (.dK (putK kvs (Sum.inr z : Key) v)))) : ∃ a H4, V.ref d = .ref a ∧ DPut H a (.str z) v H4 ∧ QH H4 :=
  ⟨d, _, rfl, DPut.k (k := (Sum.inr z : Key)) h hl, q⟩
def wordKs (ws : List Str) : List (Key × V) := ws.map fun w => ((Sum.inr w : Key), V.bl true)
theorem wordKs_in (z : Str) : ∀ ws : List Str, (valV (wordKs ws) (Sum.inr z : Key)).isSome = decide (z ∈ ws)
  | [] => rfl
  | w :: ws => by
    have ih := wordKs_in z ws
    unfold wordKs at ih ⊢
    rw [List.map_cons]
    by_cases h : w = z
    · rw [valV_pos (by rw [h])]
      simp [h]
    · rw [valV_neg (fun q => h (Sum.inr.inj q)), ih]
      have h' : z ≠ w := fun q => h q.symm
      simp [h']
theorem wordKs_put (z : Str) (ws : List Str) (h : z ∉ ws) : putK (wordKs ws) (Sum.inr z : Key) (.bl true) = wordKs (ws ++ [z]) := by
  have e := wordKs_in z ws
  rw [decide_eq_false h] at e
  have e' : valV (wordKs ws) (Sum.inr z : Key) = none := by
    cases q : valV (wordKs ws) (Sum.inr z : Key) with
    | none => rfl
    | some v => rw [q] at e; cases e
  rw [putK_new _ e']
  unfold wordKs
  rw [List.map_append]
  rfl
end
section
variable {X : Cx} (K : PySem.W.Frag)
theorem kFldS {st : Stmt} {ta tv : TE} {f : Str} (hp : PS X st (sFld X.K ta tv f)) (h : X.K = K := by rfl) : PS X st (sFld K ta tv f) := h ▸ hp
end
section
variable {σ : L2.St} {H : Hp} {ta tv tk te : TE} {D : Ends} {K : PySem.W.Frag} {f : Str} {Q : VK}
theorem sfld (q : tv σ H fun y H1 => ta σ H1 fun x H2 => ∃ a C dx fs, x = .ref a ∧ H2 a = some (.ins C dx fs) ∧ Cls K C ∧ NoAttr K C f ∧ fs.length < 1000 ∧ D.nx σ (upd H2 a (.ins C dx (putF f y fs)))) : sFld K ta tv f D σ H := q
theorem sfldE {QH : Hp → Prop} {x C dx : Addr} {fs : List (Str × V)} {y : V} {H2 : Hp} (h : H2 x = some (.ins C dx fs)) (c : Cls K C) (n : NoAttr K C f) (l : fs.length < 1000) (q : QH (upd H2 x (.ins C dx (putF f y fs)))) :
    ∃ a C dx fs, V.ref x = .ref a ∧ H2 a = some (.ins C dx fs) ∧ Cls K C ∧ NoAttr K C f ∧ fs.length < 1000 ∧ QH (upd H2 a (.ins C dx (putF f y fs))) := ⟨x, C, dx, fs, rfl, h, c, n, l, q⟩
theorem fld_ (q : ta σ H fun x H1 => ∃ a C dx fs v, x = .ref a ∧ H1 a = some (.ins C dx fs) ∧ Cls K C ∧ NoAttr K C f ∧ fs.lookup f = some v ∧ Q v H1) : tFld K ta f σ H Q := q
theorem fldE {QV : V → Prop} {x C dx : Addr} {fs : List (Str × V)} {v : V} (h : H x = some (.ins C dx fs)) (c : Cls K C) (n : NoAttr K C f) (l : fs.lookup f = some v) (q : QV v) :
    ∃ a C dx fs v, V.ref x = .ref a ∧ H a = some (.ins C dx fs) ∧ Cls K C ∧ NoAttr K C f ∧ fs.lookup f = some v ∧ QV v := ⟨x, C, dx, fs, v, rfl, h, c, n, l, q⟩
/-- the turns of a dict comprehension whose dict is at D -/
def DcW (J : It) (g : TG) (tt : TT) (tk tv : TE) (vs : List Nat) (σ : L2.St) (H1 : Hp) (D : Addr) (Q : VK) : Prop :=
  ∃ W : Nat → Nat → Hp → Prop, (∃ m, W 0 m (upd H1 D (.dK []))) ∧
    ∀ i m H, W i m H → (J.stop i H ∧ Q (.ref D) H) ∨
      (J.go i H ∧ ∃ Nx : Hp → Prop, (∀ H', Nx H' → ∃ m', m' < m ∧ W (i + 1) m' H') ∧
        ∀ x H', J.yld i H x H' → g x (wipe σ vs) H' fun σ2 H2 => wipe σ2 vs = wipe σ vs ∧
          tt σ2 H2 fun b H3 => if b = true then tk σ2 H3 fun y H4 => tv σ2 H4 fun z H5 => ∃ kvs k, y = kV k ∧ H5 D = some (.dK kvs) ∧ kvs.length < sizeLine ∧ Nx (upd H5 D (.dK (putK kvs k z))) else Nx H3)
theorem dc {wi : TI} {g : TG} {tt : TT} {vs : List Nat} (q : wi σ H fun J H1 => ∀ D, H1 D = none → DcW J g tt tk tv vs σ H1 D Q) : tDc wi g tt tk tv vs σ H Q := q
end
section
variable {σ : L2.St} {H : Hp} {td ty : TE} {d : Addr} {kvs : List (Key × V)} {z : Str} {Q : VK} {K : PySem.W.Frag}
theorem dget1_ (q : td σ H fun x H1 => ∃ a, x = .ref a ∧ IsD H1 a ∧ ty σ H1 fun y H2 => ∃ o, DGet H2 a y o ∧ Q (o.getD .non) H2) : tDGet1 td ty σ H Q := q
theorem dgetE {QA : Addr → Prop} (h : H d = some (.dK kvs)) (q : QA d) : ∃ a, V.ref d = .ref a ∧ IsD H a ∧ QA a := ⟨d, rfl, .inl ⟨kvs, .inl h⟩, q⟩
theorem dgetO {QO : Option V → Prop} (h : H d = some (.dK kvs)) (q : QO (valV kvs (Sum.inr z : Key))) : ∃ o, DGet H d (.str z) o ∧ QO o := ⟨_, DGet.k (k := (Sum.inr z : Key)) h, q⟩
/-- two tuples joined: some tuple of both -/
theorem catA {a b : Addr} {xs ys : List V} (h1 : SqT K H a xs) (h2 : SqT K H b ys) (hz : xs.length + ys.length ≤ sizeLine) (q : ∀ p H', Same H H' → SqT K H' p (xs ++ ys) → Q (.ref p) H') : rCatA K (.ref a) (.ref b) H Q := by
  refine ⟨a, b, xs, ys, rfl, rfl, h1, h2, hz, fun e => ?_, fun _ e => ?_, fun _ _ p hp => ?_⟩
  · subst e; exact q b H (Same.refl H) h2
  · subst e; exact q a H (Same.refl H) (by rw [List.append_nil]; exact h1)
  · exact q p _ (same_new (Same.refl H) hp) (SqT.of upd_same)
end
end R
end
section
set_option Elab.async false
set_option linter.all false
set_option maxRecDepth 100000
set_option maxHeartbeats 4000000
set_option pp.maxSteps 1500
set_option pp.deepTerms false
local macro_rules | `(tactic| walk_at "ne") => `(tactic| first
  | assumption | (apply Ne.symm; assumption)
  | exact R.ne_new (by assumption) | exact (R.ne_new (by assumption)).symm
  | exact L2.ne_of_none (by assumption) (by assumption) | exact (L2.ne_of_none (by assumption) (by assumption)).symm
  | exact L2.ne_of_none (by assumption) (R.free_new (by assumption)) | exact (L2.ne_of_none (by assumption) (R.free_new (by assumption))).symm)
local macro_rules | `(tactic| walk_at "at") => `(tactic| first
  | assumption | exact L2.upd_same
  | (refine R.sb (H := ?H) (p := ?p) ?e ?n ?h; (case e => assumption); (case n => walk_at "ne"); (case h => walk_at "at"))
  | (refine R.sm (H := ?H) ?e ?h; (case e => assumption); (case h => walk_at "at"))
  | (refine Eq.trans (L2.upd_ne ?_) ?_ <;> first | walk_at "ne" | walk_at "at"))
local macro_rules | `(tactic| walk_at "sqt") => `(tactic| first | assumption | (refine L2.SqT.of ?_; walk_at "at"))
local macro_rules | `(tactic| walk_at "ty") => `(tactic| first | exact R.tyN | exact R.tyB | exact R.tyI | exact R.tyS | (refine R.tyT (xs := ?xs) ?h; case h => walk_at "at") | (refine R.tyL (xs := ?xs) ?h; case h => walk_at "at"))
local macro_rules | `(tactic| walk_at "kit") => `(tactic| first | exact R.kit_NoneType_tuple | exact R.kit_NoneType_list | exact R.kit_NoneType_bool | exact R.kit_NoneType_str | exact R.kit_NoneType_int | exact R.kit_bool_tuple | exact R.kit_bool_list | exact R.kit_bool_bool | exact R.kit_bool_str | exact R.kit_bool_int | exact R.kit_int_tuple | exact R.kit_int_list | exact R.kit_int_bool | exact R.kit_int_str | exact R.kit_int_int | exact R.kit_str_tuple | exact R.kit_str_list | exact R.kit_str_bool | exact R.kit_str_str | exact R.kit_str_int | exact R.kit_tuple_tuple | exact R.kit_tuple_list | exact R.kit_tuple_bool | exact R.kit_tuple_str | exact R.kit_tuple_int | exact R.kit_list_tuple | exact R.kit_list_list | exact R.kit_list_bool | exact R.kit_list_str | exact R.kit_list_int)
local macro_rules | `(tactic| walk_at "sz") => `(tactic| first | assumption | (refine Nat.le_trans ?_ (show 1000 ≤ PySem.sizeLine by decide); omega) | decide)
local macro_rules | `(tactic| walk_at "szl") => `(tactic| first | assumption | exact Nat.le_of_lt (L2.small1000 (by omega)) | decide | decide +kernel)
local macro_rules | `(tactic| walk_at "sqa") => `(tactic| first | assumption | exact R.SeqA.same (by assumption) (by assumption) | exact R.SeqA.new (by assumption) (by assumption) | (exact Or.inl (by walk_at "at")) | (exact Or.inr (by walk_at "at")))
local macro_rules | `(tactic| walk_at "ix") => `(tactic| first | rfl | (exact L2.atI_nat (by assumption)) | assumption)
local macro_rules | `(tactic| walk_at "cond") => `(tactic| first
  | exact Or.inl (by decide) | exact Or.inr (by decide) | exact Or.inl ⟨by omega, by omega⟩ | exact Or.inr ⟨by omega, by omega⟩
  | (constructor <;> omega) | (show _ ≠ _; omega) | decide | omega)
local macro_rules | `(tactic| walk_at "r1") => `(tactic| first
  | with_reducible refine R.seq ?_ | with_reducible refine R.asg ?_ | with_reducible refine R.ifs ?_ | with_reducible refine R.ret ?_ | with_reducible refine R.retN ?_ | with_reducible refine R.drop ?_ | with_reducible refine R.next ?_
  | with_reducible refine R.op ?_ | ((with_reducible refine R.var (v := ?v) ?h ?q); case h => rfl) | with_reducible refine R.c ?_ | with_reducible refine R.tst ?_ | with_reducible refine R.tb_ ?_ | with_reducible refine R.ex ?_
  | with_reducible refine R.i0 ?_ | with_reducible refine R.eqI ?_ | with_reducible refine R.neI ?_ | ((with_reducible refine R.ic ?_ ?_); · walk_at "cond") | with_reducible refine R.u0 ?_ | with_reducible refine R.un ?_
  | ((with_reducible refine R.eq ?_ ?_); · rfl) | ((with_reducible refine R.ne ?_ ?_); · rfl)
  | with_reducible refine R.and_ ?_ | with_reducible refine R.or_ ?_ | with_reducible refine R.not_ ?_ | with_reducible refine R.ife ?_ | with_reducible refine R.chain ?_
  | with_reducible refine R.cons ?_ | with_reducible refine R.nil ?_ | with_reducible refine R.call ?_ | with_reducible refine R.cb ?_ | with_reducible refine R.bm ?_
  | with_reducible refine R.gname ?_ | with_reducible refine R.gsub ?_ | with_reducible refine R.gnil ?_ | with_reducible refine R.gcons ?_ | with_reducible refine R.yes ?_
  | with_reducible refine R.int1 ?_ | ((with_reducible refine R.lenL (xs := ?xs) ?h ?q); case h => walk_at "at")
  | ((with_reducible refine R.ixL (xs := ?xs) (v := ?v) ?h ?e ?q); (case h => walk_at "at"); (case e => walk_at "ix"))
  | ((with_reducible refine R.setL (xs := ?xs) (n := ?n) ?h ?e ?q); (case h => walk_at "at"); (case e => rfl))
  | ((with_reducible refine R.append (xs := ?xs) ?h ?e ?q); (case h => walk_at "at"); (case e => walk_at "cond"))
  | with_reducible refine R.is_ ?_ | with_reducible refine R.isnot ?_ | with_reducible refine R.andV ?_ | with_reducible refine R.orV ?_ | with_reducible refine R.notV ?_
  | ((with_reducible refine R.isi (s := ?s) (b := ?b) ?ty ?h ?q); (case ty => walk_at "ty"); (case h => walk_at "kit"))
  | ((with_reducible refine R.addS ?h ?q); (case h => walk_at "sz")) | with_reducible refine R.max2 ?_ | with_reducible refine R.min2 ?_
  | ((with_reducible refine R.lenStr ?h ?q); (case h => walk_at "szl")) | ((with_reducible refine R.ixS (n := ?n) ?h ?e ?q); (case h => walk_at "szl"); (case e => walk_at "ix"))
  | ((with_reducible refine R.tyl (xs := ?xs) ?h ?q); (case h => walk_at "at")) | with_reducible refine R.itlist ?_ | with_reducible refine R.ittup ?_ | with_reducible refine R.m1 ?_ | with_reducible refine R.m1s ?_ | with_reducible refine R.leS ?_ | with_reducible refine R.itstr ?_ | with_reducible refine R.itstrE ?_ | with_reducible refine R.lc ?_ | with_reducible refine R.for_ ?_ | ((with_reducible refine R.all_ (bs := ?bs) ?h ?q); (case h => walk_at "at"))
  | with_reducible refine R.rng1 ?_ | ((with_reducible refine R.rngE ?h ?q); (case h => (constructor <;> omega)))
  | ((with_reducible refine R.lenT (xs := ?xs) ?h ?q); (case h => walk_at "sqt")) | ((with_reducible refine R.ixT (xs := ?xs) (v := ?v) ?h ?e ?q); (case h => walk_at "sqt"); (case e => walk_at "ix"))
  | ((refine R.itlE (xs := ?xs) ?h ?q); (case h => walk_at "at")) | ((refine R.ittE (xs := ?xs) ?h ?q); (case h => walk_at "at"))
  | ((refine R.gseq (xs := ?xs) ?h ?e ?q); (case h => walk_at "sqa"); (case e => rfl)) | ((refine R.ixA (xs := ?xs) (v := ?v) ?h ?e ?q); (case h => walk_at "sqa"); (case e => walk_at "ix")) | ((refine R.lenA (xs := ?xs) ?h ?q); (case h => walk_at "sqa"))
  | ((with_reducible refine R.gtup (xs := ?xs) ?h ?e ?q); (case h => walk_at "sqt"); (case e => rfl))
  | with_reducible refine R.din_ ?_ | with_reducible refine R.dput_ ?_
  | with_reducible refine R.sfld ?_ | with_reducible refine R.fld_ ?_ | with_reducible refine R.dc ?_
  | with_reducible refine R.dget1_ ?_
  | with_reducible refine R.itseq ?_ | with_reducible refine R.itenum ?_
  | with_reducible refine R.itT ?_ | with_reducible refine R.itF ?_ | with_reducible refine R.itNT ?_ | with_reducible refine R.itNF ?_
  | (with_reducible refine R.tup ?_) | (with_reducible refine R.lst ?_))
local macro_rules | `(tactic| walk_at "rd") => `(tactic| (repeat (first | walk_at "r1" | (dsimp only [Int.reduceToNat, List.set_cons_succ, List.set_cons_zero, List.length_cons, List.length_nil, List.nil_append, List.cons_append, List.append_nil]))))
local macro_rules | `(tactic| walk_at "go") => `(tactic| (rw [R.start_eq]; dsimp only [R.startE, List.map_nil]; walk_at "rd"))
namespace KN
open PySem L2 SX R
open C8 (Cal Def cal0 pe_c pe_gc fnScope fnBody)
section
variable {P : Program} {w : World} {K : PySem.W.Frag} {mg : Str → Option Value} {base : Heap}
abbrev sIsspoken : Stmt := top 9
theorem scIsspoken : FnScope ["row", "count", "_", "most", "unsaid", "least"] ["row", "count"] (fnScope sIsspoken) := ⟨rfl, rfl, rfl, by decide +kernel, rfl, by decide +kernel, by decide +kernel⟩
abbrev sSfault : Stmt := top 10
theorem scSfault : FnScope ["row", "word", "value"] ["row"] (fnScope sSfault) := ⟨rfl, rfl, rfl, by decide +kernel, rfl, by decide +kernel, by decide +kernel⟩
abbrev sMfault : Stmt := top 11
theorem scMfault : FnScope ["row", "word", "value", "count", "_", "rest"] ["row"] (fnScope sMfault) := ⟨rfl, rfl, rfl, by decide +kernel, rfl, by decide +kernel, by decide +kernel⟩
def spoken (m : MR) (n : Int) : Bool := decide ((if m.u = true then 2 else 1) ≤ n) && (match m.c with | none => true | some c => decide (n ≤ c))
def spSpoken : Sp := fun vs H Q _ => ∃ (a : Addr) (m : MR) (n : Int), vs = [.ref a, .int n] ∧ H a = some (.tup (mrV m)) ∧ Q (.bl (spoken m n)) H
theorem c_is_spoken {f : Addr} {fd : FuncData} (F : Def K mg "is_spoken" sIsspoken f fd) (b : Binds K fd ["row", "count"] []) : Cal P w K mg base 1 "is_spoken" spSpoken [] := by
  refine cal0 F b .nil scIsspoken (fun vs H Q E h => ?_) (fun cdv A outer s H vs Q E hr h => ?_)
  · obtain ⟨a, m, n, rfl, _⟩ := h
    rfl
  · obtain ⟨a, ⟨mw, mv, mc, mu, mr⟩, n, rfl, ha, k⟩ := h
    refine ⟨_, pss_cons (ps_asg (pv 0) (kgTup K (n := 5) rfl (pgs_cons (pg_name (i := 2) scIsspoken.nd rfl (Or.inl rfl)) (pgs_cons (pg_name (i := 2) scIsspoken.nd rfl (Or.inl rfl)) (pgs_cons (pg_name (i := 3) scIsspoken.nd rfl (Or.inl rfl)) (pgs_cons (pg_name (i := 4) scIsspoken.nd rfl (Or.inl rfl)) (pgs_cons (pg_name (i := 2) scIsspoken.nd rfl (Or.inl rfl)) pgs_nil)))))))
      (pss_cons (ps_set (i := 5) scIsspoken.nd rfl (Or.inl rfl) (pe_ifExp (pt_val (pv 4)) pe_int pe_int))
      (pss_one (ps_ret (pe_and (pe_cmpR op_le (pv 5) (pv 1) (nomark _)) (pe_one (pe_or (pe_cmpR oIs (pv 3) pe_non (nomark _)) (pe_one (pe_cmpR op_le (pv 1) (pv 3) (nomark _))))))))), ?_⟩
    have ha' : H a = some (.tup [.str mw, .int mv, ocnt mc, .bl mu, .int mr]) := ha
    unfold spoken at k
    dsimp only at k
    walk_at "go"
    cases mu with
    | true =>
      walk_at "rd"
      refine it (fun h1 => ?_) (fun h1 => ?_)
      · walk_at "rd"
        cases mc with
        | none =>
          refine itY rfl ?_
          refine b_ ?_ k
          simp [h1]
        | some c =>
          refine itN (fun z => nomatch (show V.int c = V.non from z)) ?_
          rw [show ocnt (some c) = V.int c from rfl]
          walk_at "rd"
          refine b_ ?_ k
          simp [h1]
      · refine b_ ?_ k
        simp [h1]
    | false =>
      walk_at "rd"
      refine it (fun h1 => ?_) (fun h1 => ?_)
      · walk_at "rd"
        cases mc with
        | none =>
          refine itY rfl ?_
          refine b_ ?_ k
          simp [h1]
        | some c =>
          refine itN (fun z => nomatch (show V.int c = V.non from z)) ?_
          rw [show ocnt (some c) = V.int c from rfl]
          walk_at "rd"
          refine b_ ?_ k
          simp [h1]
      · refine b_ ?_ k
        simp [h1]
/-- what is wrong with a simple row -/
def sfc (z : Str) (v : Int) : Option Str := if okWord z = true then (if 1 ≤ v ∧ v ≤ 100000 then none else some "value") else some "word"
def sF : List V → Option Str
  | [.str z, .int v] => sfc z v
  | _ => some "length"
inductive SShape : List V → Prop
  | no {d : List V} (h : d.length ≠ 2) : SShape d
  | yes (z : Str) (v : Int) (h : z.length ≤ 1000) : SShape [.str z, .int v]
def oS : Option Str → V
  | none => .non
  | some z => .str z
def spSf : Sp := fun vs H Q _ => ∃ (a : Addr) (d : List V), vs = [.ref a] ∧ SeqA H a d ∧ SShape d ∧ ∀ H', Same H H' → Q (oS (sF d)) H'
theorem c_simple_fault (Z : Zs mg) (C : Cs mg) (c_is_word : Cal P w K mg base 1 "is_word" spIsword []) {f : Addr} {fd : FuncData} (F : Def K mg "simple_fault" sSfault f fd) (b : Binds K fd ["row"] []) : Cal P w K mg base 2 "simple_fault" spSf [] := by
  refine cal0 F b .nil scSfault (fun vs H Q E h => ?_) (fun cdv A outer s H vs Q E hr h => ?_)
  · obtain ⟨a, d, rfl, _⟩ := h
    rfl
  · obtain ⟨a, d, rfl, ha, hd, k⟩ := h
    refine ⟨_, pss_cons (ps_if (pt_cmpR op_ne (pe_callB (kLen K) (by rfl) Z.len PySem.boot_len (pa_cons (pv 0) pa_nil)) pe_int (nomark _))
        (pss_one (ps_ret pe_str))
        (pss_nil))
      (pss_cons (ps_asg (pv 0) (kgSeq K (n := 2) rfl (pgs_cons (pg_name (i := 1) scSfault.nd rfl (Or.inl rfl)) (pgs_cons (pg_name (i := 2) scSfault.nd rfl (Or.inl rfl)) pgs_nil))))
      (pss_cons (ps_if (pt_not (pt_val (pe_c c_is_word hr (by omega) (by rfl) (pa_cons (pv 1) pa_nil))))
        (pss_one (ps_ret pe_str))
        (pss_nil))
      (pss_cons (ps_if (pt_not (pt_chain op_le op_le pe_int (pv 2) (pe_gc (by rfl) C.GREATEST)))
        (pss_one (ps_ret pe_str))
        (pss_nil))
      (pss_one (ps_ret pe_non))))), ?_⟩
    cases hd with
    | no h =>
      walk_at "go"
      refine itn (fun _ => ?_) (fun z => absurd z (by omega))
      walk_at "rd"
      have e : sF d = some "length" := by
        unfold sF
        split
        · exact absurd rfl h
        · rfl
      have k' := k H (Same.refl H)
      rw [e] at k'
      exact k'
    | yes z v h =>
      walk_at "go"
      refine itn (fun q => absurd rfl q) (fun _ => ?_)
      walk_at "rd"
      refine ⟨z, rfl, h, fun H1 s1 => ?_⟩
      have k' : Q (oS (sfc z v)) H1 := k H1 s1
      unfold sfc at k'
      walk_at "rd"
      refine itBn (fun h1 => ?_) (fun h1 => ?_)
      · rw [if_neg (by rw [h1]; exact Bool.false_ne_true)] at k'
        walk_at "rd"
        exact k'
      · rw [if_pos h1] at k'
        walk_at "rd"
        refine it (fun h2 => ?_) (fun h2 => ?_)
        · walk_at "rd"
          refine itn (fun h3 => ?_) (fun h3 => ?_)
          · rw [if_neg (by omega)] at k'
            walk_at "rd"
            exact k'
          · rw [if_pos (by omega)] at k'
            walk_at "rd"
            exact k'
        · rw [if_neg (by omega)] at k'
          walk_at "rd"
          exact k'
/-- what is wrong with a multiplier's row -/
def cOk : Option Int → Bool
  | none => true
  | some n => decide (1 ≤ n ∧ n ≤ 100000)
def lOk (v r : Int) : Option Int → Bool
  | none => true
  | some n => decide (n * v + r ≤ 100000)
def mfc (z : Str) (v : Int) (c : Option Int) (r : Int) : Option Str :=
  if okWord z = true then
    (if 2 ≤ v ∧ v ≤ 100000 then
      (if cOk c = true then (if 0 ≤ r ∧ r < v then (if lOk v r c = true then none else some "large") else some "rest") else some "count")
     else some "value")
  else some "word"
inductive MShape : List V → Option Str → Prop
  | no {d : List V} (h : d.length ≠ 5) : MShape d (some "length")
  | yes (z : Str) (v : Int) (c : Option Int) (u : Bool) (r : Int) (h : z.length ≤ 1000) : MShape [.str z, .int v, ocnt c, .bl u, .int r] (mfc z v c r)
def spMf : Sp := fun vs H Q _ => ∃ (a : Addr) (d : List V) (o : Option Str), vs = [.ref a] ∧ SeqA H a d ∧ MShape d o ∧ ∀ H', Same H H' → Q (oS o) H'
theorem c_multiplier_fault (Z : Zs mg) (C : Cs mg) (c_is_word : Cal P w K mg base 1 "is_word" spIsword []) {f : Addr} {fd : FuncData} (F : Def K mg "multiplier_fault" sMfault f fd) (b : Binds K fd ["row"] []) : Cal P w K mg base 2 "multiplier_fault" spMf [] := by
  refine cal0 F b .nil scMfault (fun vs H Q E h => ?_) (fun cdv A outer s H vs Q E hr h => ?_)
  · obtain ⟨a, d, o, rfl, _⟩ := h
    rfl
  · obtain ⟨a, d, o, rfl, ha, hd, k⟩ := h
    refine ⟨_, pss_cons (ps_if (pt_cmpR op_ne (pe_callB (kLen K) (by rfl) Z.len PySem.boot_len (pa_cons (pv 0) pa_nil)) pe_int (nomark _))
        (pss_one (ps_ret pe_str))
        (pss_nil))
      (pss_cons (ps_asg (pv 0) (kgSeq K (n := 5) rfl (pgs_cons (pg_name (i := 1) scMfault.nd rfl (Or.inl rfl)) (pgs_cons (pg_name (i := 2) scMfault.nd rfl (Or.inl rfl)) (pgs_cons (pg_name (i := 3) scMfault.nd rfl (Or.inl rfl)) (pgs_cons (pg_name (i := 4) scMfault.nd rfl (Or.inl rfl)) (pgs_cons (pg_name (i := 5) scMfault.nd rfl (Or.inl rfl)) pgs_nil)))))))
      (pss_cons (ps_if (pt_not (pt_val (pe_c c_is_word hr (by omega) (by rfl) (pa_cons (pv 1) pa_nil))))
        (pss_one (ps_ret pe_str))
        (pss_nil))
      (pss_cons (ps_if (pt_not (pt_chain op_le op_le pe_int (pv 2) (pe_gc (by rfl) C.GREATEST)))
        (pss_one (ps_ret pe_str))
        (pss_nil))
      (pss_cons (ps_if (PW.pt (pw_and (pt_cmpR oIsNot (pv 3) pe_non (nomark _)) (pw_and1 (pt_not (pt_chain op_le op_le pe_int (pv 3) (pe_gc (by rfl) C.GREATEST))))))
        (pss_one (ps_ret pe_str))
        (pss_nil))
      (pss_cons (ps_if (pt_not (pt_chain op_le op_lt pe_int (pv 5) (pv 2)))
        (pss_one (ps_ret pe_str))
        (pss_nil))
      (pss_cons (ps_if (PW.pt (pw_and (pt_cmpR oIsNot (pv 3) pe_non (nomark _)) (pw_and1 (pt_cmpR op_gt (pe_op op_add (pe_op op_mul (pv 3) (pv 2)) (pv 5)) (pe_gc (by rfl) C.GREATEST) (nomark _)))))
        (pss_one (ps_ret pe_str))
        (pss_nil))
      (pss_one (ps_ret pe_non)))))))), ?_⟩
    cases hd with
    | no h =>
      walk_at "go"
      refine itn (fun _ => ?_) (fun z => absurd z (by omega))
      walk_at "rd"
      exact k H (Same.refl H)
    | yes z v c u r h =>
      walk_at "go"
      refine itn (fun q => absurd rfl q) (fun _ => ?_)
      walk_at "rd"
      refine ⟨z, rfl, h, fun H1 s1 => ?_⟩
      have k' : Q (oS (mfc z v c r)) H1 := k H1 s1
      unfold mfc at k'
      walk_at "rd"
      refine itBn (fun h1 => ?_) (fun h1 => ?_)
      · rw [if_neg (by rw [h1]; exact Bool.false_ne_true)] at k'
        walk_at "rd"
        exact k'
      · rw [if_pos h1] at k'
        walk_at "rd"
        refine it (fun h2 => ?_) (fun h2 => ?_)
        · walk_at "rd"
          refine itn (fun h3 => ?_) (fun h3 => ?_)
          · rw [if_neg (by omega)] at k'
            walk_at "rd"
            exact k'
          · rw [if_pos (by omega)] at k'
            walk_at "rd"
            cases c with
            | none =>
              rw [if_pos (show cOk none = true from rfl)] at k'
              refine itn (fun q => absurd rfl q) (fun _ => ?_)
              walk_at "rd"
              refine it (fun h4 => ?_) (fun h4 => ?_)
              · walk_at "rd"
                refine itn (fun h5 => ?_) (fun h5 => ?_)
                · rw [if_neg (by omega)] at k'
                  walk_at "rd"
                  exact k'
                · rw [if_pos (by omega), if_pos (show lOk v r none = true from rfl)] at k'
                  walk_at "rd"
                  refine itn (fun q => absurd rfl q) (fun _ => ?_)
                  walk_at "rd"
                  exact k'
              · rw [if_neg (by omega)] at k'
                walk_at "rd"
                exact k'
            | some n =>
              rw [show ocnt (some n) = V.int n from rfl] at *
              have e1 : cOk (some n) = decide (1 ≤ n ∧ n ≤ 100000) := rfl
              have e2 : lOk v r (some n) = decide (n * v + r ≤ 100000) := rfl
              rw [e1, e2] at k'
              refine itn (fun _ => ?_) (fun q => nomatch q)
              walk_at "rd"
              refine it (fun h6 => ?_) (fun h6 => ?_)
              · walk_at "rd"
                refine itn (fun h7 => ?_) (fun h7 => ?_)
                · rw [if_neg (by rw [decide_eq_false (by omega)]; exact Bool.false_ne_true)] at k'
                  walk_at "rd"
                  exact k'
                · rw [if_pos (decide_eq_true (by omega))] at k'
                  walk_at "rd"
                  refine it (fun h4 => ?_) (fun h4 => ?_)
                  · walk_at "rd"
                    refine itn (fun h5 => ?_) (fun h5 => ?_)
                    · rw [if_neg (by omega)] at k'
                      walk_at "rd"
                      exact k'
                    · rw [if_pos (by omega)] at k'
                      walk_at "rd"
                      refine itn (fun _ => ?_) (fun q => nomatch q)
                      walk_at "rd"
                      refine it (fun h8 => ?_) (fun h8 => ?_)
                      · rw [if_neg (by rw [decide_eq_false (by omega)]; exact Bool.false_ne_true)] at k'
                        walk_at "rd"
                        exact k'
                      · rw [if_pos (decide_eq_true (by omega))] at k'
                        walk_at "rd"
                        exact k'
                  · rw [if_neg (by omega)] at k'
                    walk_at "rd"
                    exact k'
              · rw [if_neg (by rw [decide_eq_false (by omega)]; exact Bool.false_ne_true)] at k'
                walk_at "rd"
                exact k'
        · rw [if_neg (by omega)] at k'
          walk_at "rd"
          exact k'
end
end KN
end
section
set_option Elab.async false
set_option linter.all false
set_option maxRecDepth 100000
set_option maxHeartbeats 4000000
set_option pp.maxSteps 1500
set_option pp.deepTerms false
local macro_rules | `(tactic| walk_at "ne") => `(tactic| first
  | assumption | (apply Ne.symm; assumption)
  | exact R.ne_new (by assumption) | exact (R.ne_new (by assumption)).symm
  | exact L2.ne_of_none (by assumption) (by assumption) | exact (L2.ne_of_none (by assumption) (by assumption)).symm
  | exact L2.ne_of_none (by assumption) (R.free_new (by assumption)) | exact (L2.ne_of_none (by assumption) (R.free_new (by assumption))).symm)
local macro_rules | `(tactic| walk_at "at") => `(tactic| first
  | assumption | exact L2.upd_same
  | (refine R.sb (H := ?H) (p := ?p) ?e ?n ?h; (case e => assumption); (case n => walk_at "ne"); (case h => walk_at "at"))
  | (refine R.sm (H := ?H) ?e ?h; (case e => assumption); (case h => walk_at "at"))
  | (refine Eq.trans (L2.upd_ne ?_) ?_ <;> first | walk_at "ne" | walk_at "at"))
local macro_rules | `(tactic| walk_at "sqt") => `(tactic| first | assumption | (refine L2.SqT.of ?_; walk_at "at"))
local macro_rules | `(tactic| walk_at "ty") => `(tactic| first | exact R.tyN | exact R.tyB | exact R.tyI | exact R.tyS | (refine R.tyT (xs := ?xs) ?h; case h => walk_at "at") | (refine R.tyL (xs := ?xs) ?h; case h => walk_at "at"))
local macro_rules | `(tactic| walk_at "kit") => `(tactic| first | exact R.kit_NoneType_tuple | exact R.kit_NoneType_list | exact R.kit_NoneType_bool | exact R.kit_NoneType_str | exact R.kit_NoneType_int | exact R.kit_bool_tuple | exact R.kit_bool_list | exact R.kit_bool_bool | exact R.kit_bool_str | exact R.kit_bool_int | exact R.kit_int_tuple | exact R.kit_int_list | exact R.kit_int_bool | exact R.kit_int_str | exact R.kit_int_int | exact R.kit_str_tuple | exact R.kit_str_list | exact R.kit_str_bool | exact R.kit_str_str | exact R.kit_str_int | exact R.kit_tuple_tuple | exact R.kit_tuple_list | exact R.kit_tuple_bool | exact R.kit_tuple_str | exact R.kit_tuple_int | exact R.kit_list_tuple | exact R.kit_list_list | exact R.kit_list_bool | exact R.kit_list_str | exact R.kit_list_int)
local macro_rules | `(tactic| walk_at "sz") => `(tactic| first | assumption | (refine Nat.le_trans ?_ (show 1000 ≤ PySem.sizeLine by decide); omega) | decide)
local macro_rules | `(tactic| walk_at "szl") => `(tactic| first | assumption | exact Nat.le_of_lt (L2.small1000 (by omega)) | decide | decide +kernel)
local macro_rules | `(tactic| walk_at "sqa") => `(tactic| first | assumption | exact R.SeqA.same (by assumption) (by assumption) | exact R.SeqA.new (by assumption) (by assumption) | (exact Or.inl (by walk_at "at")) | (exact Or.inr (by walk_at "at")))
local macro_rules | `(tactic| walk_at "ix") => `(tactic| first | rfl | (exact L2.atI_nat (by assumption)) | assumption)
local macro_rules | `(tactic| walk_at "cond") => `(tactic| first
  | exact Or.inl (by decide) | exact Or.inr (by decide) | exact Or.inl ⟨by omega, by omega⟩ | exact Or.inr ⟨by omega, by omega⟩
  | (constructor <;> omega) | (show _ ≠ _; omega) | decide | omega)
local macro_rules | `(tactic| walk_at "r1") => `(tactic| first
  | with_reducible refine R.seq ?_ | with_reducible refine R.asg ?_ | with_reducible refine R.ifs ?_ | with_reducible refine R.ret ?_ | with_reducible refine R.retN ?_ | with_reducible refine R.drop ?_ | with_reducible refine R.next ?_
  | with_reducible refine R.op ?_ | ((with_reducible refine R.var (v := ?v) ?h ?q); case h => rfl) | with_reducible refine R.c ?_ | with_reducible refine R.tst ?_ | with_reducible refine R.tb_ ?_ | with_reducible refine R.ex ?_
  | with_reducible refine R.i0 ?_ | with_reducible refine R.eqI ?_ | with_reducible refine R.neI ?_ | ((with_reducible refine R.ic ?_ ?_); · walk_at "cond") | with_reducible refine R.u0 ?_ | with_reducible refine R.un ?_
  | ((with_reducible refine R.eq ?_ ?_); · rfl) | ((with_reducible refine R.ne ?_ ?_); · rfl)
  | with_reducible refine R.and_ ?_ | with_reducible refine R.or_ ?_ | with_reducible refine R.not_ ?_ | with_reducible refine R.ife ?_ | with_reducible refine R.chain ?_
  | with_reducible refine R.cons ?_ | with_reducible refine R.nil ?_ | with_reducible refine R.call ?_ | with_reducible refine R.cb ?_ | with_reducible refine R.bm ?_
  | with_reducible refine R.gname ?_ | with_reducible refine R.gsub ?_ | with_reducible refine R.gnil ?_ | with_reducible refine R.gcons ?_ | with_reducible refine R.yes ?_
  | with_reducible refine R.int1 ?_ | ((with_reducible refine R.lenL (xs := ?xs) ?h ?q); case h => walk_at "at")
  | ((with_reducible refine R.ixL (xs := ?xs) (v := ?v) ?h ?e ?q); (case h => walk_at "at"); (case e => walk_at "ix"))
  | ((with_reducible refine R.setL (xs := ?xs) (n := ?n) ?h ?e ?q); (case h => walk_at "at"); (case e => rfl))
  | ((with_reducible refine R.append (xs := ?xs) ?h ?e ?q); (case h => walk_at "at"); (case e => walk_at "cond"))
  | with_reducible refine R.is_ ?_ | with_reducible refine R.isnot ?_ | with_reducible refine R.andV ?_ | with_reducible refine R.orV ?_ | with_reducible refine R.notV ?_
  | ((with_reducible refine R.isi (s := ?s) (b := ?b) ?ty ?h ?q); (case ty => walk_at "ty"); (case h => walk_at "kit"))
  | ((with_reducible refine R.addS ?h ?q); (case h => walk_at "sz")) | with_reducible refine R.max2 ?_ | with_reducible refine R.min2 ?_
  | ((with_reducible refine R.lenStr ?h ?q); (case h => walk_at "szl")) | ((with_reducible refine R.ixS (n := ?n) ?h ?e ?q); (case h => walk_at "szl"); (case e => walk_at "ix"))
  | ((with_reducible refine R.tyl (xs := ?xs) ?h ?q); (case h => walk_at "at")) | with_reducible refine R.itlist ?_ | with_reducible refine R.ittup ?_ | with_reducible refine R.m1 ?_ | with_reducible refine R.m1s ?_ | with_reducible refine R.leS ?_ | with_reducible refine R.itstr ?_ | with_reducible refine R.itstrE ?_ | with_reducible refine R.lc ?_ | with_reducible refine R.for_ ?_ | ((with_reducible refine R.all_ (bs := ?bs) ?h ?q); (case h => walk_at "at"))
  | with_reducible refine R.rng1 ?_ | ((with_reducible refine R.rngE ?h ?q); (case h => (constructor <;> omega)))
  | ((with_reducible refine R.lenT (xs := ?xs) ?h ?q); (case h => walk_at "sqt")) | ((with_reducible refine R.ixT (xs := ?xs) (v := ?v) ?h ?e ?q); (case h => walk_at "sqt"); (case e => walk_at "ix"))
  | ((refine R.itlE (xs := ?xs) ?h ?q); (case h => walk_at "at")) | ((refine R.ittE (xs := ?xs) ?h ?q); (case h => walk_at "at"))
  | ((refine R.gseq (xs := ?xs) ?h ?e ?q); (case h => walk_at "sqa"); (case e => rfl)) | ((refine R.ixA (xs := ?xs) (v := ?v) ?h ?e ?q); (case h => walk_at "sqa"); (case e => walk_at "ix")) | ((refine R.lenA (xs := ?xs) ?h ?q); (case h => walk_at "sqa"))
  | ((with_reducible refine R.gtup (xs := ?xs) ?h ?e ?q); (case h => walk_at "sqt"); (case e => rfl))
  | with_reducible refine R.din_ ?_ | with_reducible refine R.dput_ ?_
  | with_reducible refine R.sfld ?_ | with_reducible refine R.fld_ ?_ | with_reducible refine R.dc ?_
  | with_reducible refine R.dget1_ ?_
  | with_reducible refine R.itseq ?_ | with_reducible refine R.itenum ?_
  | with_reducible refine R.itT ?_ | with_reducible refine R.itF ?_ | with_reducible refine R.itNT ?_ | with_reducible refine R.itNF ?_
  | (with_reducible refine R.tup ?_) | (with_reducible refine R.lst ?_))
local macro_rules | `(tactic| walk_at "rd") => `(tactic| (repeat (first | walk_at "r1" | (dsimp only [Int.reduceToNat, List.set_cons_succ, List.set_cons_zero, List.length_cons, List.length_nil, List.nil_append, List.cons_append, List.append_nil]))))
local macro_rules | `(tactic| walk_at "go") => `(tactic| (rw [R.start_eq]; dsimp only [R.startE, List.map_nil]; walk_at "rd"))
namespace KN
open PySem L2 SX R
open C8 (Cal Def cal0 pe_c pe_gc fnScope fnBody)
section
variable {P : Program} {w : World} {K : PySem.W.Frag} {mg : Str → Option Value} {base : Heap}
abbrev sBad : Stmt := inClass (top 7) 0
theorem scBad : FnScope ["self", "part", "number", "reason"] ["self", "part", "number", "reason"] (defScope sBad) := ⟨rfl, rfl, rfl, by decide +kernel, rfl, by decide +kernel, by decide +kernel⟩
/-- what stands of BadSystem, at C -/
structure BadK (K : PySem.W.Frag) (mg : Str → Option Value) (C fI : Addr) : Prop where
  oex : OexC K C
  iC : PySem.W.findIn K (.ref C) "__init__" = some (some (.ref fI))
  tI : PySem.W.typeIn K (.ref fI) = some (.type "function")
  gC : mg "BadSystem" = some (.ref C)
  nP : PySem.W.findIn K (.ref C) "part" = some none
  nN : PySem.W.findIn K (.ref C) "number" = some none
  nR : PySem.W.findIn K (.ref C) "reason" = some none
def badFs (p n r : V) : List (Str × V) := [("reason", r), ("number", n), ("part", p)]
def spBadI (C : Addr) : Sp := fun vs H Q _ => ∃ (a : Addr) (p n r : V), vs = [.ref a, p, n, r] ∧ H a = some (exo a C none) ∧
  ∀ dx H', H dx = none → dx ≠ a → (∀ b o, b ≠ a → H b = some o → H' b = some o) → H' a = some (exo a C (some dx)) → H' dx = some (exd dx (badFs p n r)) → Q .non H'
theorem ok_bad {C fI : Addr} {fd : FuncData} (T : BadK K mg C fI) (F : Fun K "__init__" "BadSystem.__init__" sBad fI fd) : FnOk P w K mg base CX0 1 fI fd ["self", "part", "number", "reason"] (spBadI C) := by
  refine F.ok scBad (fun vs H Q E h => ?_) (fun cdv A outer s H vs Q E hr h => ?_)
  · obtain ⟨a, p, n, r, rfl, _⟩ := h
    rfl
  · obtain ⟨a, p, n, r, rfl, ha, k⟩ := h
    refine ⟨_, pss_cons (ps_ost (pv 0) (pv 1)) (pss_cons (ps_ost (pv 0) (pv 2)) (pss_one (ps_ost (pv 0) (pv 3)))), ?_⟩
    refine ⟨_, rfl, _, rfl, a, C, rfl, T.oex, T.nP, .inl ⟨ha, fun dx hdx nda => ?_⟩⟩
    have ad : a ≠ dx := nda.symm
    refine ⟨_, rfl, _, rfl, a, C, rfl, T.oex, T.nN, .inr ⟨dx, _, upd_same, by rw [upd_ne nda]; exact upd_same, by show 1 ≤ 900; decide, ?_⟩⟩
    refine ⟨_, rfl, _, rfl, a, C, rfl, T.oex, T.nR, .inr ⟨dx, _, by rw [upd_ne ad]; exact upd_same, upd_same, by show 2 ≤ 900; decide, ?_⟩⟩
    refine k dx _ hdx nda (fun b o hb e => ?_) (by rw [upd_ne ad, upd_ne ad]; exact upd_same) upd_same
    have bd : b ≠ dx := ne_of_none e hdx
    rw [upd_ne bd, upd_ne bd, upd_ne hb, upd_ne bd]
    exact e
end
/-- the making of a BadSystem, read -/
theorem r_bad {C : Addr} {H1 : Hp} {p n r : V} {QX : XK} (k : ∀ d H', Same H1 H' → H1 d = none → H' d = some (.xd (badFs p n r)) → QX (.ref C) (some d) H') :
    [p, n, r].length ≤ 1000 ∧ ∀ a, H1 a = none → spBadI C (.ref a :: ([p, n, r] ++ [])) (upd H1 a (exo a C none))
      (fun v H2 => v = .non ∧ ∃ (d : Addr) (fs : List (Str × V)), H2 a = some (exo a C (some d)) ∧ H2 d = some (exd d fs) ∧ H1 d = none ∧ QX (.ref C) (some d) (upd (del H2 a) d (.xd fs))) (fun _ _ _ => False) := by
  refine ⟨by show 3 ≤ 1000; decide, fun a ha => ⟨a, p, n, r, rfl, upd_same, fun dx H' hdx nda hk h1 h2 => ⟨rfl, dx, badFs p n r, h1, h2, ?_, ?_⟩⟩⟩
  · rw [upd_ne nda] at hdx; exact hdx
  · have hdx1 : H1 dx = none := by rw [upd_ne nda] at hdx; exact hdx
    refine k dx _ (fun b o e => ?_) hdx1 upd_same
    have bd : b ≠ dx := ne_of_none e hdx1
    have ba : b ≠ a := ne_of_none e ha
    rw [upd_ne bd, del_ne ba]
    exact hk b o ba (by rw [upd_ne ba]; exact e)
/-! ### defs that may raise -/
structure CalX (P : Program) (w : World) (K : PySem.W.Frag) (mg : Str → Option Value) (base : Heap) (k : Nat) (x : Str) (sp : Sp) : Prop where
  ex : ∃ (f : Addr) (fd : FuncData) (ps : List Str), FnOk P w K mg base (L2.CX P w) k f fd ps sp ∧ mg x = some (.ref f) ∧ PySem.W.keepIn K (.ref f) = true ∧ Binds K fd ps []
section
variable {P : Program} {w : World} {K : PySem.W.Frag} {mg : Str → Option Value} {base : Heap}
theorem calX0 {x : Str} {st : Stmt} {f : Addr} {fd : FuncData} {N ps : List Str} {k : Nat} {sp : Sp} (F : Def K mg x st f fd) (b : Binds K fd ps []) (S : FnScope N ps (fnScope st)) (len : ∀ vs H Q E, sp vs H Q E → vs.length = ps.length)
    (hbody : ∀ (cdv : Value) (A : Around) (outer : List Env) (s : Shared) (H : Hp) (vs : List V) (Q : VK) (E : XK), Room k (A.deeper (PyProof.Rows.envOfC x (fnScope st) s.heap.objs.size f cdv)) → sp vs H Q E →
      ∃ t, PSs (cxOf (L2.CX P w) P w K mg base N x (fnScope st) f cdv A outer s H E) (fnBody st) t ∧ t { nx := fun _ H' => Q .non H', rt := Q } (start N vs) H) : CalX P w K mg base (k + 1) x sp := by
  obtain ⟨oc, od, dV, kV, doc, pm, an, cdv, ct, osl, rfl, lk, hcd⟩ := F.fn.ex
  refine ⟨f, _, ps, fn_of lk hcd S len fun A outer s H vs Q E hr hsp => ?_, F.mgf, F.kp, b⟩
  exact hbody cdv A outer s H vs Q E hr hsp
end
section
variable {X : Cx} {k j : Nat} {x : Str} {sp : Sp} {E : XK} {p pos : Pos} {e : Expr} {es : List Expr} {t : TA}
/-- a call of one, what it raises goes on -/
theorem pe_cx (c : CalX X.prog X.w X.K X.mg X.base k x sp) (hr : Room j X.A) (hk : k ≤ j) (tk : Takes X fun cls d _ H => E cls d H) (hg : Gl X x) (ha : PA X (e :: es) t)
    (hdb : (x == ("__debug__" : Str)) = false := by decide) (he : starEach (e :: es) X.env = (false, eval e X.env) :: starEach es X.env := by rfl) (hpl : (backTo pos (starEach es X.env)).any (·.1) = false := by rfl) :
    PE X (.Call (.Name x p) (e :: es) [] pos) (tCall sp [] E t) := by
  obtain ⟨f, fd, ps, F, hm, kp, b⟩ := c.ex
  exact pe_call F (hr.mono hk) hg hm kp b .nil (passes_call tk fun _ _ _ _ h => h) ha hdb he hpl
end
section
variable {P : Program} {w : World} {K : PySem.W.Frag} {mg : Str → Option Value} {base : Heap}
abbrev sCkrows : Stmt := top 12
theorem scCkrows : FnScope ["part", "rows", "most", "fault", "number", "row", "reason"] ["part", "rows", "most", "fault"] (fnScope sCkrows) := ⟨rfl, rfl, rfl, by decide +kernel, rfl, by decide +kernel, by decide +kernel⟩
/-- the rows of these, lists or tuples of lists or tuples -/
def RowsIn (H : Hp) (a : Addr) (ds : List (List V)) : Prop := ∃ xs : List V, SeqA H a xs ∧ xs.length = ds.length ∧ ∀ (i : Nat) (d : List V), ds[i]? = some d → ∃ b, xs[i]? = some (.ref b) ∧ SeqA H b d
theorem RowsIn.same {H H' : Hp} {a : Addr} {ds : List (List V)} (s : Same H H') (h : RowsIn H a ds) : RowsIn H' a ds := by
  obtain ⟨xs, h1, h2, h3⟩ := h
  exact ⟨xs, h1.same s, h2, fun i d e => let ⟨b, hb, hd⟩ := h3 i d e; ⟨b, hb, hd.same s⟩⟩
/-- which fault is asked, and what it tells of a row -/
def Flt (fS fM f : Addr) (d : List V) (o : Option Str) : Prop := (f = fS ∧ SShape d ∧ o = sF d) ∨ (f = fM ∧ MShape d o)
def spCheck (C fS fM : Addr) : Sp := fun vs H Q E => ∃ (part : Str) (a f : Addr) (most : Int) (ds : List (List V)) (os : List (Option Str)), vs = [.str part, .ref a, .int most, .ref f] ∧ RowsIn H a ds ∧ (f = fS ∨ f = fM) ∧ os.length = ds.length ∧ ds.length ≤ 1000 ∧
  (∀ (i : Nat) (d : List V) (o : Option Str), ds[i]? = some d → os[i]? = some o → Flt fS fM f d o) ∧
  (most < ds.length → ∀ (d : Addr) (H' : Hp), Same H H' → H' d = some (.xd (badFs (.str part) .non (.str "many"))) → E (.ref C) (some d) H') ∧
  ((ds.length : Int) ≤ most → ∀ (j : Nat) (r : Str), os[j]? = some (some r) → (∀ i, i < j → os[i]? = some none) → ∀ (d : Addr) (H' : Hp), Same H H' → H' d = some (.xd (badFs (.str part) (.int j) (.str r))) → E (.ref C) (some d) H') ∧
  ((ds.length : Int) ≤ most → (∀ i, i < ds.length → os[i]? = some none) → ∀ H', Same H H' → Q .non H')
theorem c_check_rows (Z : Zs mg) {C fI fS fM : Addr} {fdI : FuncData} (TB : BadK K mg C fI) (GB : FnOk P w K mg base CX0 1 fI fdI ["self", "part", "number", "reason"] (spBadI C)) (bB : Binds K fdI ["self", "part", "number", "reason"] [])
    (cS : C8.CalAt P w K mg base 2 fS spSf) (cM : C8.CalAt P w K mg base 2 fM spMf) {f : Addr} {fd : FuncData} (F : Def K mg "check_rows" sCkrows f fd) (b : Binds K fd ["part", "rows", "most", "fault"] []) : CalX P w K mg base 3 "check_rows" (spCheck C fS fM) := by
  refine calX0 F b scCkrows (fun vs H Q E h => ?_) (fun cdv A outer s H vs Q E hr h => ?_)
  · obtain ⟨part, a, f, most, ds, os, rfl, _⟩ := h
    rfl
  · obtain ⟨part, a, f, most, ds, os, rfl, hR, hf, hol, hds, hflt, kE1, kE2, kQ⟩ := h
    refine ⟨_, pss_cons (ps_if (pt_cmpR op_gt (pe_callB (kLen K) (by rfl) Z.len PySem.boot_len (pa_cons (pv 1) pa_nil)) (pv 2) (nomark _))
        (pss_one (ps_raise rfl (takes_of rfl rfl rfl rfl) (pmk_oex TB.oex TB.iC TB.tI GB (hr.mono (by omega)) bB .nil pass0 rfl TB.gC (pa_cons (pv 0) (pa_cons pe_non (pa_cons pe_str pa_nil))))))
        (pss_nil))
      (pss_one (ps_for (passes_of rfl) rfl (kiEnum K (by rfl) Z.enumerate (pa_cons (pv 1) pa_nil)) (kgTup K (n := 2) rfl (pgs_cons (pg_name (i := 4) scCkrows.nd rfl (Or.inl rfl)) (pgs_cons (pg_name (i := 5) scCkrows.nd rfl (Or.inl rfl)) pgs_nil)))
        (pss_cons (ps_set (i := 6) scCkrows.nd rfl (Or.inl rfl) (C8.pe_cv cS cM hr (by omega) (by omega) (i := 3) rfl (Or.inl rfl) (pa_cons (pv 5) pa_nil)))
      (pss_one (ps_if (pt_cmpR oIsNot (pv 6) pe_non (nomark _))
        (pss_one (ps_raise rfl (takes_of rfl rfl rfl rfl) (pmk_oex TB.oex TB.iC TB.tI GB (hr.mono (by omega)) bB .nil pass0 rfl TB.gC (pa_cons (pv 0) (pa_cons (pv 4) (pa_cons (pv 6) pa_nil))))))
        (pss_nil)))))), ?_⟩
    obtain ⟨xs, hxs, hxl, hrow⟩ := id hR
    walk_at "go"
    refine it (fun h1 => ?_) (fun h1 => ?_)
    · walk_at "rd"
      unfold tMkO
      walk_at "rd"
      exact r_bad fun d H' s1 _ h => kE1 (by omega) d H' s1 h
    · walk_at "rd"
      have hm : (ds.length : Int) ≤ most := by omega
      refine for_enum hxs (fun i σ' H' => ∃ n r v, σ' = [some (V.str part), some (.ref a), some (.int most), some (.ref f), n, r, v] ∧ Same H H' ∧ ∀ j, j < i → os[j]? = some none) ⟨none, none, none, rfl, Same.refl H, fun j h => absurd h (Nat.not_lt_zero _)⟩
        (fun i σ' H' _ hp => by obtain ⟨_, _, _, _, s1, _⟩ := hp; exact fun o h => s1 _ _ h) ?_ ?_
      · rintro i x σ' H1 T hi ⟨n0, r0, v0, rfl, s1, hall⟩ hT
        have hid : i < ds.length := by have := (List.getElem?_eq_some_iff.mp hi).1; omega
        have hdi : ds[i]? = some ds[i] := List.getElem?_eq_getElem hid
        have hoi : os[i]? = some os[i] := List.getElem?_eq_getElem (by omega)
        obtain ⟨b, hb, hbd⟩ := hrow i _ hdi
        rw [hb] at hi
        cases hi
        have hfl := hflt i _ _ hdi hoi
        have s2 : Same H (upd H1 T (.tup [.int (i : Nat), .ref b])) := same_new s1 hT
        have hTt : upd H1 T (.tup [V.int (i : Nat), .ref b]) T = some (.tup [.int (i : Nat), .ref b]) := upd_same
        have hb2 := hbd.same s2
        generalize upd H1 T (.tup [V.int (i : Nat), .ref b]) = H2 at s2 hTt hb2 ⊢
        have rest : ∀ H3, Same H2 H3 → ∀ D : Ends, D.nx = (fun σ' H' => ∃ n r v, σ' = [some (V.str part), some (.ref a), some (.int most), some (.ref f), n, r, v] ∧ Same H H' ∧ ∀ j, j < i + 1 → os[j]? = some none) →
            (if (!decide (oS os[i] = V.non)) = true then tMkO C (spBadI C) [] (tCons (tVar 0) (tCons (tVar 4) (tCons (tVar 6) tNil))) [some (V.str part), some (.ref a), some (.int most), some (.ref f), some (.int (i : Nat)), some (.ref b), some (oS os[i])] H3 (fun cls d H' => E cls d H')
              else D.nx [some (V.str part), some (.ref a), some (.int most), some (.ref f), some (.int (i : Nat)), some (.ref b), some (oS os[i])] H3) := by
          intro H3 s3 D eD
          rw [eD]
          cases ho : os[i] with
          | none =>
            refine itn (fun q => absurd rfl q) (fun _ => ?_)
            refine ⟨_, _, _, rfl, s2.trans s3, fun j hj => ?_⟩
            by_cases hji : j = i
            · rw [hji, hoi, ho]
            · exact hall j (by omega)
          | some r =>
            refine itn (fun _ => ?_) (fun q => nomatch (show V.str r = V.non from q))
            unfold tMkO
            walk_at "rd"
            exact r_bad fun d H' s4 _ h => kE2 hm i r (by rw [hoi, ho]) hall d H' ((s2.trans s3).trans s4) h
        walk_at "rd"
        rcases hfl with ⟨ef, hsh, eo⟩ | ⟨ef, hsh⟩
        · subst ef
          refine .inl ⟨rfl, ?_⟩
          walk_at "rd"
          refine ⟨b, _, rfl, hb2, hsh, fun H3 s3 => ?_⟩
          rw [← eo]
          walk_at "rd"
          exact rest H3 s3 _ rfl
        · subst ef
          refine .inr ⟨rfl, ?_⟩
          walk_at "rd"
          refine ⟨b, _, _, rfl, hb2, hsh, fun H3 s3 => ?_⟩
          walk_at "rd"
          exact rest H3 s3 _ rfl
      · rintro σ' H1 ⟨n0, r0, v0, rfl, s1, hall⟩
        exact kQ hm (fun i hi => hall i (by omega)) H1 s1
end
end KN
end
section
set_option Elab.async false
set_option linter.all false
set_option maxRecDepth 100000
set_option maxHeartbeats 4000000
set_option pp.maxSteps 1500
set_option pp.deepTerms false
local macro_rules | `(tactic| walk_at "ne") => `(tactic| first
  | assumption | (apply Ne.symm; assumption)
  | exact R.ne_new (by assumption) | exact (R.ne_new (by assumption)).symm
  | exact L2.ne_of_none (by assumption) (by assumption) | exact (L2.ne_of_none (by assumption) (by assumption)).symm
  | exact L2.ne_of_none (by assumption) (R.free_new (by assumption)) | exact (L2.ne_of_none (by assumption) (R.free_new (by assumption))).symm)
local macro_rules | `(tactic| walk_at "at") => `(tactic| first
  | assumption | exact L2.upd_same
  | (refine R.sb (H := ?H) (p := ?p) ?e ?n ?h; (case e => assumption); (case n => walk_at "ne"); (case h => walk_at "at"))
  | (refine R.sm (H := ?H) ?e ?h; (case e => assumption); (case h => walk_at "at"))
  | (refine Eq.trans (L2.upd_ne ?_) ?_ <;> first | walk_at "ne" | walk_at "at"))
local macro_rules | `(tactic| walk_at "sqt") => `(tactic| first | assumption | (refine L2.SqT.of ?_; walk_at "at"))
local macro_rules | `(tactic| walk_at "ty") => `(tactic| first | exact R.tyN | exact R.tyB | exact R.tyI | exact R.tyS | (refine R.tyT (xs := ?xs) ?h; case h => walk_at "at") | (refine R.tyL (xs := ?xs) ?h; case h => walk_at "at"))
local macro_rules | `(tactic| walk_at "kit") => `(tactic| first | exact R.kit_NoneType_tuple | exact R.kit_NoneType_list | exact R.kit_NoneType_bool | exact R.kit_NoneType_str | exact R.kit_NoneType_int | exact R.kit_bool_tuple | exact R.kit_bool_list | exact R.kit_bool_bool | exact R.kit_bool_str | exact R.kit_bool_int | exact R.kit_int_tuple | exact R.kit_int_list | exact R.kit_int_bool | exact R.kit_int_str | exact R.kit_int_int | exact R.kit_str_tuple | exact R.kit_str_list | exact R.kit_str_bool | exact R.kit_str_str | exact R.kit_str_int | exact R.kit_tuple_tuple | exact R.kit_tuple_list | exact R.kit_tuple_bool | exact R.kit_tuple_str | exact R.kit_tuple_int | exact R.kit_list_tuple | exact R.kit_list_list | exact R.kit_list_bool | exact R.kit_list_str | exact R.kit_list_int)
local macro_rules | `(tactic| walk_at "sz") => `(tactic| first | assumption | (refine Nat.le_trans ?_ (show 1000 ≤ PySem.sizeLine by decide); omega) | decide)
local macro_rules | `(tactic| walk_at "szl") => `(tactic| first | assumption | exact Nat.le_of_lt (L2.small1000 (by omega)) | decide | decide +kernel)
local macro_rules | `(tactic| walk_at "sqa") => `(tactic| first | assumption | exact R.SeqA.same (by assumption) (by assumption) | exact R.SeqA.new (by assumption) (by assumption) | (exact Or.inl (by walk_at "at")) | (exact Or.inr (by walk_at "at")))
local macro_rules | `(tactic| walk_at "ix") => `(tactic| first | rfl | (exact L2.atI_nat (by assumption)) | assumption)
local macro_rules | `(tactic| walk_at "cond") => `(tactic| first
  | exact Or.inl (by decide) | exact Or.inr (by decide) | exact Or.inl ⟨by omega, by omega⟩ | exact Or.inr ⟨by omega, by omega⟩
  | (constructor <;> omega) | (show _ ≠ _; omega) | decide | omega)
local macro_rules | `(tactic| walk_at "r1") => `(tactic| first
  | with_reducible refine R.seq ?_ | with_reducible refine R.asg ?_ | with_reducible refine R.ifs ?_ | with_reducible refine R.ret ?_ | with_reducible refine R.retN ?_ | with_reducible refine R.drop ?_ | with_reducible refine R.next ?_
  | with_reducible refine R.op ?_ | ((with_reducible refine R.var (v := ?v) ?h ?q); case h => rfl) | with_reducible refine R.c ?_ | with_reducible refine R.tst ?_ | with_reducible refine R.tb_ ?_ | with_reducible refine R.ex ?_
  | with_reducible refine R.i0 ?_ | with_reducible refine R.eqI ?_ | with_reducible refine R.neI ?_ | ((with_reducible refine R.ic ?_ ?_); · walk_at "cond") | with_reducible refine R.u0 ?_ | with_reducible refine R.un ?_
  | ((with_reducible refine R.eq ?_ ?_); · rfl) | ((with_reducible refine R.ne ?_ ?_); · rfl)
  | with_reducible refine R.and_ ?_ | with_reducible refine R.or_ ?_ | with_reducible refine R.not_ ?_ | with_reducible refine R.ife ?_ | with_reducible refine R.chain ?_
  | with_reducible refine R.cons ?_ | with_reducible refine R.nil ?_ | with_reducible refine R.call ?_ | with_reducible refine R.cb ?_ | with_reducible refine R.bm ?_
  | with_reducible refine R.gname ?_ | with_reducible refine R.gsub ?_ | with_reducible refine R.gnil ?_ | with_reducible refine R.gcons ?_ | with_reducible refine R.yes ?_
  | with_reducible refine R.int1 ?_ | ((with_reducible refine R.lenL (xs := ?xs) ?h ?q); case h => walk_at "at")
  | ((with_reducible refine R.ixL (xs := ?xs) (v := ?v) ?h ?e ?q); (case h => walk_at "at"); (case e => walk_at "ix"))
  | ((with_reducible refine R.setL (xs := ?xs) (n := ?n) ?h ?e ?q); (case h => walk_at "at"); (case e => rfl))
  | ((with_reducible refine R.append (xs := ?xs) ?h ?e ?q); (case h => walk_at "at"); (case e => walk_at "cond"))
  | with_reducible refine R.is_ ?_ | with_reducible refine R.isnot ?_ | with_reducible refine R.andV ?_ | with_reducible refine R.orV ?_ | with_reducible refine R.notV ?_
  | ((with_reducible refine R.isi (s := ?s) (b := ?b) ?ty ?h ?q); (case ty => walk_at "ty"); (case h => walk_at "kit"))
  | ((with_reducible refine R.addS ?h ?q); (case h => walk_at "sz")) | with_reducible refine R.max2 ?_ | with_reducible refine R.min2 ?_
  | ((with_reducible refine R.lenStr ?h ?q); (case h => walk_at "szl")) | ((with_reducible refine R.ixS (n := ?n) ?h ?e ?q); (case h => walk_at "szl"); (case e => walk_at "ix"))
  | ((with_reducible refine R.tyl (xs := ?xs) ?h ?q); (case h => walk_at "at")) | with_reducible refine R.itlist ?_ | with_reducible refine R.ittup ?_ | with_reducible refine R.m1 ?_ | with_reducible refine R.m1s ?_ | with_reducible refine R.leS ?_ | with_reducible refine R.itstr ?_ | with_reducible refine R.itstrE ?_ | with_reducible refine R.lc ?_ | with_reducible refine R.for_ ?_ | ((with_reducible refine R.all_ (bs := ?bs) ?h ?q); (case h => walk_at "at"))
  | with_reducible refine R.rng1 ?_ | ((with_reducible refine R.rngE ?h ?q); (case h => (constructor <;> omega)))
  | ((with_reducible refine R.lenT (xs := ?xs) ?h ?q); (case h => walk_at "sqt")) | ((with_reducible refine R.ixT (xs := ?xs) (v := ?v) ?h ?e ?q); (case h => walk_at "sqt"); (case e => walk_at "ix"))
  | ((refine R.itlE (xs := ?xs) ?h ?q); (case h => walk_at "at")) | ((refine R.ittE (xs := ?xs) ?h ?q); (case h => walk_at "at"))
  | ((refine R.gseq (xs := ?xs) ?h ?e ?q); (case h => walk_at "sqa"); (case e => rfl)) | ((refine R.ixA (xs := ?xs) (v := ?v) ?h ?e ?q); (case h => walk_at "sqa"); (case e => walk_at "ix")) | ((refine R.lenA (xs := ?xs) ?h ?q); (case h => walk_at "sqa"))
  | ((with_reducible refine R.gtup (xs := ?xs) ?h ?e ?q); (case h => walk_at "sqt"); (case e => rfl))
  | with_reducible refine R.din_ ?_ | with_reducible refine R.dput_ ?_
  | with_reducible refine R.sfld ?_ | with_reducible refine R.fld_ ?_ | with_reducible refine R.dc ?_
  | with_reducible refine R.dget1_ ?_
  | with_reducible refine R.itseq ?_ | with_reducible refine R.itenum ?_
  | with_reducible refine R.itT ?_ | with_reducible refine R.itF ?_ | with_reducible refine R.itNT ?_ | with_reducible refine R.itNF ?_
  | (with_reducible refine R.tup ?_) | (with_reducible refine R.lst ?_))
local macro_rules | `(tactic| walk_at "rd") => `(tactic| (repeat (first | walk_at "r1" | (dsimp only [Int.reduceToNat, List.set_cons_succ, List.set_cons_zero, List.length_cons, List.length_nil, List.nil_append, List.cons_append, List.append_nil]))))
local macro_rules | `(tactic| walk_at "go") => `(tactic| (rw [R.start_eq]; dsimp only [R.startE, List.map_nil]; walk_at "rd"))
namespace KN
open PySem L2 SX R
open C8 (Cal Def cal0 pe_c pe_gc fnScope fnBody)
section
variable {P : Program} {w : World} {K : PySem.W.Frag} {mg : Str → Option Value} {base : Heap}
abbrev sCktwice : Stmt := top 13
theorem scCktwice : FnScope ["simple", "multipliers", "seen", "part", "rows", "number", "row"] ["simple", "multipliers"] (fnScope sCktwice) := ⟨rfl, rfl, rfl, by decide +kernel, rfl, by decide +kernel, by decide +kernel⟩
abbrev sCkendl : Stmt := top 14
theorem scCkendl : FnScope ["multipliers", "found", "number", "row"] ["multipliers"] (fnScope sCkendl) := ⟨rfl, rfl, rfl, by decide +kernel, rfl, by decide +kernel, by decide +kernel⟩
/-- rows whose first items are these words -/
def WordsIn (H : Hp) (a : Addr) (ws : List Str) : Prop := ∃ ds : List (List V), RowsIn H a ds ∧ ds.length = ws.length ∧ ∀ (i : Nat) (z : Str), ws[i]? = some z → ∃ r, ds[i]? = some (.str z :: r)
def partV (n i : Nat) : V := if i < n then .str "simple" else .str "multipliers"
def ixV (n i : Nat) : V := if i < n then .int (i : Nat) else .int ((i - n : Nat) : Nat)
def spTwice (C : Addr) : Sp := fun vs H Q E => ∃ (a c : Addr) (ws us : List Str), vs = [.ref a, .ref c] ∧ WordsIn H a ws ∧ WordsIn H c us ∧ ws.length + us.length ≤ 1000 ∧
  (∀ (i : Nat) (z : Str), (ws ++ us)[i]? = some z → ((ws ++ us).take i).Nodup → z ∈ (ws ++ us).take i → ∀ (d : Addr) (H' : Hp), Same H H' → H' d = some (.xd (badFs (partV ws.length i) (ixV ws.length i) (.str "twice"))) → E (.ref C) (some d) H') ∧
  ((ws ++ us).Nodup → ∀ H', Same H H' → Q .non H')
theorem c_check_twice (Z : Zs mg) {C fI : Addr} {fdI : FuncData} (TB : BadK K mg C fI) (GB : FnOk P w K mg base CX0 1 fI fdI ["self", "part", "number", "reason"] (spBadI C)) (bB : Binds K fdI ["self", "part", "number", "reason"] [])
    {f : Addr} {fd : FuncData} (F : Def K mg "check_twice" sCktwice f fd) (b : Binds K fd ["simple", "multipliers"] []) : CalX P w K mg base 3 "check_twice" (spTwice C) := by
  refine calX0 F b scCktwice (fun vs H Q E h => ?_) (fun cdv A outer s H vs Q E hr h => ?_)
  · obtain ⟨a, c, ws, us, rfl, _⟩ := h
    rfl
  · obtain ⟨a, c, ws, us, rfl, hw, hu, hlen, kE, kQ⟩ := h
    refine ⟨_, pss_cons (ps_set (i := 2) scCktwice.nd rfl (Or.inl rfl) pe_dnewK)
      (pss_one (ps_for (passes_of rfl) rfl (kiT K (pe_tup (pa_cons (pe_tup (pa_cons pe_str (pa_cons (pv 0) pa_nil))) (pa_cons (pe_tup (pa_cons pe_str (pa_cons (pv 1) pa_nil))) pa_nil)))) (kgTup K (n := 2) rfl (pgs_cons (pg_name (i := 3) scCktwice.nd rfl (Or.inl rfl)) (pgs_cons (pg_name (i := 4) scCktwice.nd rfl (Or.inl rfl)) pgs_nil)))
        (pss_one (ps_for (passes_of rfl) rfl (kiEnum K (by rfl) Z.enumerate (pa_cons (pv 4) pa_nil)) (kgTup K (n := 2) rfl (pgs_cons (pg_name (i := 5) scCktwice.nd rfl (Or.inl rfl)) (pgs_cons (pg_name (i := 6) scCktwice.nd rfl (Or.inl rfl)) pgs_nil)))
        (pss_cons (ps_if (pt_cmp (pc_din (hu_of hr) (pe_ix (kIxA K) (pv 6) pe_int (fun _ _ => rfl)) (pv 2)))
        (pss_one (ps_raise rfl (takes_of rfl rfl rfl rfl) (pmk_oex TB.oex TB.iC TB.tI GB (hr.mono (by omega)) bB .nil pass0 rfl TB.gC (pa_cons (pv 3) (pa_cons (pv 5) (pa_cons pe_str pa_nil))))))
        (pss_nil))
      (pss_one (ps_dput (hu_of hr) (pv 2) (pe_ix (kIxA K) (pv 6) pe_int (fun _ _ => rfl)) pe_bl rfl))))))), ?_⟩
    walk_at "go"
    refine R.dnew fun d hd => ?_
    walk_at "rd"
    have inner : ∀ (pre cur : List Str) (pv : V) (x : Addr) (n5 n6 : Option V) (D : Ends) (H1 : Hp), pre.Nodup → pre.length + cur.length ≤ 1000 → WordsIn H x cur →
        (∀ (j : Nat) (z : Str), cur[j]? = some z → (pre ++ cur.take j).Nodup → z ∈ pre ++ cur.take j → ∀ (d' : Addr) (H' : Hp), Same H H' → H' d' = some (.xd (badFs pv (.int j) (.str "twice"))) → E (.ref C) (some d') H') →
        (∀ (q5 q6 : Option V) (H2 : Hp), Same H H2 → (∀ b o, b ≠ d → H1 b = some o → H2 b = some o) → H2 d = some (.dK (wordKs (pre ++ cur))) → (pre ++ cur).Nodup → D.nx [some (.ref a), some (.ref c), some (.ref d), some pv, some (.ref x), q5, q6] H2) →
        Same H H1 → H1 d = some (.dK (wordKs pre)) →
        tFor (iEnumA K (tCons (tVar 4) tNil)) (gTup K 2 (gCons (gName 5) (gCons (gName 6) gNil)))
          (tSeq
            (tIfS (tB (tDIn (tOp (rIxA K) (tVar 6) (tC (V.int 0))) (tVar 2)))
              (fun x σ H =>
                tMkO C (spBadI C) [] (tCons (tVar 3) (tCons (tVar 5) (tCons (tC (V.str (Str.ofString "twice"))) tNil)))
                  σ H fun cls d H' => E cls d H')
              tNext)
            (sDPut (tVar 2) (tOp (rIxA K) (tVar 6) (tC (V.int 0))) (tC (V.bl true)))) D [some (.ref a), some (.ref c), some (.ref d), some pv, some (.ref x), n5, n6] H1 := by
      intro pre cur pv x n5 n6 D H1 hpn hpl hwx hE hN s1 hd1
      obtain ⟨ds, ⟨xs, hxs, hxl, hrow⟩, hdl, hword⟩ := hwx
      walk_at "rd"
      refine for_enum (hxs.same s1) (fun i σ' H' => ∃ q5 q6, σ' = [some (.ref a), some (.ref c), some (.ref d), some pv, some (.ref x), q5, q6] ∧ Same H H' ∧ (∀ b o, b ≠ d → H1 b = some o → H' b = some o) ∧ H' d = some (.dK (wordKs (pre ++ cur.take i))) ∧ (pre ++ cur.take i).Nodup)
        ⟨n5, n6, rfl, s1, fun b o _ h => h, by rw [List.take_zero, List.append_nil]; exact hd1, by rw [List.take_zero, List.append_nil]; exact hpn⟩ ?_ ?_ ?_
      · rintro i σ' H' _ ⟨_, _, _, _, s2, _⟩ o h
        have hxd : x ≠ d := by
          rcases hxs with q | q
          · exact ne_of_none q hd
          · exact ne_of_none q hd
        exact s2 x o hxd h
      · rintro i y σ' H2 T hi ⟨q5, q6, rfl, s2, o2, hd2, hnd⟩ hT
        have hic : i < cur.length := by have := (List.getElem?_eq_some_iff.mp hi).1; omega
        have hz : cur[i]? = some cur[i] := List.getElem?_eq_getElem hic
        obtain ⟨r, hdr⟩ := hword i _ hz
        obtain ⟨b, hb, hbd⟩ := hrow i _ hdr
        rw [hb] at hi
        cases hi
        have s3 : Same H (upd H2 T (.tup [.int (i : Nat), .ref b])) := same_new s2 hT
        have o3 : ∀ b' o, b' ≠ d → H1 b' = some o → upd H2 T (.tup [V.int (i : Nat), .ref b]) b' = some o := fun b' o n h => by
          have := o2 b' o n h
          rw [upd_ne (ne_of_none this hT)]
          exact this
        have hTt : upd H2 T (.tup [V.int (i : Nat), .ref b]) T = some (.tup [.int (i : Nat), .ref b]) := upd_same
        have hd3 : upd H2 T (.tup [V.int (i : Nat), .ref b]) d = some (.dK (wordKs (pre ++ cur.take i))) := by rw [upd_ne (ne_of_none hd2 hT)]; exact hd2
        have hb3 := hbd.same s3
        have hl3 : (wordKs (pre ++ cur.take i)).length < sizeLine := small1000 (by unfold wordKs; rw [List.length_map, List.length_append, List.length_take]; omega)
        generalize upd H2 T (.tup [V.int (i : Nat), .ref b]) = H3 at s3 o3 hTt hb3 hd3 ⊢
        walk_at "rd"
        refine R.ixA hb3 (atI_nat (j := 0) rfl) ?_
        walk_at "rd"
        refine R.din hd3 ?_
        rw [wordKs_in]
        walk_at "rd"
        refine it (fun h1 => ?_) (fun h1 => ?_)
        · unfold tMkO
          walk_at "rd"
          exact r_bad fun d' H' s4 _ h => hE i _ hz hnd h1 d' H' (s3.trans s4) h
        · walk_at "rd"
          refine R.ixA hb3 (atI_nat (j := 0) rfl) ?_
          refine R.dput hd3 hl3 ?_
          have et : cur.take (i + 1) = cur.take i ++ [cur[i]] := by rw [List.take_add_one, hz]; rfl
          refine ⟨_, _, rfl, same_put s3 hd, fun b' o n h => by rw [upd_ne n]; exact o3 b' o n h, ?_, ?_⟩
          · rw [upd_same, wordKs_put _ _ h1, et, List.append_assoc]
          · rw [et, ← List.append_assoc]
            exact nodup_snoc hnd h1
      · rintro σ' H2 ⟨q5, q6, rfl, s2, o2, hd2, hnd⟩
        have exl : xs.length = cur.length := by omega
        rw [exl, List.take_of_length_le (Nat.le_refl _)] at hd2 hnd
        exact hN q5 q6 H2 s2 o2 hd2 hnd
    refine ⟨by decide, fun t1 ht1 => ?_⟩
    walk_at "rd"
    refine ⟨by decide, fun t2 ht2 => ?_⟩
    walk_at "rd"
    refine ⟨by decide, fun t3 ht3 => ?_⟩
    have dt1 : d ≠ t1 := (ne_new ht1).symm
    have ht1' : H t1 = none := free_new ht1
    have dt2 : d ≠ t2 := (ne_new (free_new ht2)).symm
    have t12 : t1 ≠ t2 := (ne_new ht2).symm
    have ht2' : H t2 = none := free_new (free_new ht2)
    have dt3 : d ≠ t3 := (ne_new (free_new (free_new ht3))).symm
    have t13 : t1 ≠ t3 := (ne_new (free_new ht3)).symm
    have t23 : t2 ≠ t3 := (ne_new ht3).symm
    have ht3' : H t3 = none := free_new (free_new (free_new ht3))
    have s0 : Same H (upd (upd (upd (upd H d (.dK [])) t1 (.tup [.str "simple", .ref a])) t2 (.tup [.str "multipliers", .ref c])) t3 (.tup [.ref t1, .ref t2])) :=
      same_put (same_put (same_put (same_put (Same.refl H) hd) ht1') ht2') ht3'
    have f1 : upd (upd (upd (upd H d (.dK [])) t1 (.tup [V.str "simple", .ref a])) t2 (.tup [V.str "multipliers", .ref c])) t3 (.tup [V.ref t1, .ref t2]) t1 = some (.tup [.str "simple", .ref a]) := by
      rw [upd_ne t13, upd_ne t12]; exact upd_same
    have f2 : upd (upd (upd (upd H d (.dK [])) t1 (.tup [V.str "simple", .ref a])) t2 (.tup [V.str "multipliers", .ref c])) t3 (.tup [V.ref t1, .ref t2]) t2 = some (.tup [.str "multipliers", .ref c]) := by
      rw [upd_ne t23]; exact upd_same
    have f3 : upd (upd (upd (upd H d (.dK [])) t1 (.tup [V.str "simple", .ref a])) t2 (.tup [V.str "multipliers", .ref c])) t3 (.tup [V.ref t1, .ref t2]) t3 = some (.tup [.ref t1, .ref t2]) := upd_same
    have fd : upd (upd (upd (upd H d (.dK [])) t1 (.tup [V.str "simple", .ref a])) t2 (.tup [V.str "multipliers", .ref c])) t3 (.tup [V.ref t1, .ref t2]) d = some (.dK (wordKs [])) := by
      rw [upd_ne dt3, upd_ne dt2, upd_ne dt1]; exact upd_same
    generalize upd (upd (upd (upd H d (.dK [])) t1 (.tup [V.str "simple", .ref a])) t2 (.tup [V.str "multipliers", .ref c])) t3 (.tup [V.ref t1, .ref t2]) = H0 at s0 f1 f2 f3 fd
    walk_at "rd"
    refine for_it (walk_tup (K := K) (a := t3) (xs := [V.ref t1, .ref t2])) (fun i σ' H' => ∃ q3 q4 q5 q6, σ' = [some (.ref a), some (.ref c), some (.ref d), q3, q4, q5, q6] ∧ Same H H' ∧ (∀ b o, b ≠ d → H0 b = some o → H' b = some o) ∧
      H' d = some (.dK (wordKs (if i = 0 then [] else if i = 1 then ws else ws ++ us))) ∧ (if i = 0 then [] else if i = 1 then ws else ws ++ us).Nodup)
      ⟨none, none, none, none, rfl, s0, fun b o _ h => h, fd, List.nodup_nil⟩ (fun i σ' H' _ hp => by obtain ⟨_, _, _, _, _, _, o1, _⟩ := hp; exact SqT.of (o1 _ _ dt3.symm f3)) ?_ ?_
    · rintro i x σ' H1 H1' hi ⟨q3, q4, q5, q6, rfl, s1, o1, hd1, hnd⟩ ⟨rfl, hx⟩
      have g1 := o1 _ _ dt1.symm f1
      have g2 := o1 _ _ dt2.symm f2
      match i, hi with
      | 0, _ =>
        cases hx
        refine R.gtup (SqT.of g1) rfl ?_
        refine R.gcons ?_
        refine R.gname ?_
        refine R.gcons ?_
        refine R.gname ?_
        refine R.gnil ?_
        dsimp only [List.set_cons_succ, List.set_cons_zero]
        refine inner [] ws (.str "simple") a q5 q6 _ _ List.nodup_nil (by show 0 + ws.length ≤ 1000; omega) hw (fun j z hz hn hm d' H' s4 h => ?_) (fun p5 p6 H2 s2 o2 hd2 hn2 => ?_) s1 hd1
        · rw [List.nil_append] at hn hm
          have hj : j < ws.length := (List.getElem?_eq_some_iff.mp hz).1
          refine kE j z (by rw [List.getElem?_append_left hj]; exact hz) ?_ ?_ d' H' s4 ?_
          · rw [List.take_append_of_le_length (by omega)]; exact hn
          · rw [List.take_append_of_le_length (by omega)]; exact hm
          · rw [h]
            unfold partV ixV
            rw [if_pos hj, if_pos hj]
        · exact ⟨_, _, _, _, rfl, s2, fun b o n h => o2 b o n (o1 b o n h), hd2, hn2⟩
      | 1, _ =>
        cases hx
        refine R.gtup (SqT.of g2) rfl ?_
        refine R.gcons ?_
        refine R.gname ?_
        refine R.gcons ?_
        refine R.gname ?_
        refine R.gnil ?_
        dsimp only [List.set_cons_succ, List.set_cons_zero]
        refine inner ws us (.str "multipliers") c q5 q6 _ _ hnd hlen hu (fun j z hz hn hm d' H' s4 h => ?_) (fun p5 p6 H2 s2 o2 hd2 hn2 => ?_) s1 hd1
        · have et : (ws ++ us).take (ws.length + j) = ws ++ us.take j := by
            rw [List.take_append, List.take_of_length_le (by omega)]
            congr 2
            omega
          refine kE (ws.length + j) z (by rw [List.getElem?_append_right (by omega)]; rw [show ws.length + j - ws.length = j by omega]; exact hz) (by rw [et]; exact hn) (by rw [et]; exact hm) d' H' s4 ?_
          rw [h]
          unfold partV ixV
          rw [if_neg (by omega), if_neg (by omega), show ws.length + j - ws.length = j by omega]
        · exact ⟨_, _, _, _, rfl, s2, fun b o n h => o2 b o n (o1 b o n h), hd2, hn2⟩
    · rintro σ' H1 ⟨q3, q4, q5, q6, rfl, s1, o1, hd1, hnd⟩
      exact kQ hnd H1 s1
/-- rows whose third items are these counts -/
def CountsIn (H : Hp) (a : Addr) (cs : List (Option Int)) : Prop := ∃ ds : List (List V), RowsIn H a ds ∧ ds.length = cs.length ∧ ∀ (i : Nat) (o : Option Int), cs[i]? = some o → ∃ d, ds[i]? = some d ∧ atI d 2 = some (ocnt o)
def spEndl (C : Addr) : Sp := fun vs H Q E => ∃ (c : Addr) (cs : List (Option Int)), vs = [.ref c] ∧ CountsIn H c cs ∧
  (∀ (i : Nat), cs[i]? = some none → ((cs.take i).filter Option.isNone).length = 1 → ∀ (d : Addr) (H' : Hp), Same H H' → H' d = some (.xd (badFs (.str "multipliers") (.int i) (.str "endless"))) → E (.ref C) (some d) H') ∧
  ((cs.filter Option.isNone).length ≤ 1 → ∀ H', Same H H' → Q .non H')
theorem c_check_endless (Z : Zs mg) {C fI : Addr} {fdI : FuncData} (TB : BadK K mg C fI) (GB : FnOk P w K mg base CX0 1 fI fdI ["self", "part", "number", "reason"] (spBadI C)) (bB : Binds K fdI ["self", "part", "number", "reason"] [])
    {f : Addr} {fd : FuncData} (F : Def K mg "check_endless" sCkendl f fd) (b : Binds K fd ["multipliers"] []) : CalX P w K mg base 3 "check_endless" (spEndl C) := by
  refine calX0 F b scCkendl (fun vs H Q E h => ?_) (fun cdv A outer s H vs Q E hr h => ?_)
  · obtain ⟨c, cs, rfl, _⟩ := h
    rfl
  · obtain ⟨c, cs, rfl, ⟨ds, ⟨xs, hxs, hxl, hrow⟩, hdl, hcnt⟩, kE, kQ⟩ := h
    refine ⟨_, pss_cons (ps_set (i := 1) scCkendl.nd rfl (Or.inl rfl) pe_bl)
      (pss_one (ps_for (passes_of rfl) rfl (kiEnum K (by rfl) Z.enumerate (pa_cons (pv 0) pa_nil)) (kgTup K (n := 2) rfl (pgs_cons (pg_name (i := 2) scCkendl.nd rfl (Or.inl rfl)) (pgs_cons (pg_name (i := 3) scCkendl.nd rfl (Or.inl rfl)) pgs_nil)))
        (pss_one (ps_if (pt_cmpR oIs (pe_ix (kIxA K) (pv 3) pe_int (fun _ _ => rfl)) pe_non (nomark _))
        (pss_cons (ps_if (pt_val (pv 1))
        (pss_one (ps_raise rfl (takes_of rfl rfl rfl rfl) (pmk_oex TB.oex TB.iC TB.tI GB (hr.mono (by omega)) bB .nil pass0 rfl TB.gC (pa_cons pe_str (pa_cons (pv 2) (pa_cons pe_str pa_nil))))))
        (pss_nil))
      (pss_one (ps_set (i := 1) scCkendl.nd rfl (Or.inl rfl) pe_bl)))
        (pss_nil))))), ?_⟩
    walk_at "go"
    refine for_enum hxs (fun i σ' H' => ∃ q2 q3, σ' = [some (.ref c), some (.bl (decide (((cs.take i).filter Option.isNone).length = 1))), q2, q3] ∧ Same H H' ∧ ((cs.take i).filter Option.isNone).length ≤ 1)
      ⟨none, none, rfl, Same.refl H, by rw [List.take_zero]; exact Nat.zero_le _⟩ (fun i σ' H' _ hp => by obtain ⟨_, _, _, s1, _⟩ := hp; exact fun o h => s1 _ _ h) ?_ ?_
    · rintro i y σ' H1 T hi ⟨q2, q3, rfl, s1, hle⟩ hT
      have hic : i < cs.length := by have := (List.getElem?_eq_some_iff.mp hi).1; omega
      have hz : cs[i]? = some cs[i] := List.getElem?_eq_getElem hic
      obtain ⟨d, hd, hd2⟩ := hcnt i _ hz
      obtain ⟨b, hb, hbd⟩ := hrow i _ hd
      rw [hb] at hi
      cases hi
      have s2 : Same H (upd H1 T (.tup [.int (i : Nat), .ref b])) := same_new s1 hT
      have hTt : upd H1 T (.tup [V.int (i : Nat), .ref b]) T = some (.tup [.int (i : Nat), .ref b]) := upd_same
      have hb2 := hbd.same s2
      have et : cs.take (i + 1) = cs.take i ++ [cs[i]] := by rw [List.take_add_one, hz]; rfl
      generalize upd H1 T (.tup [V.int (i : Nat), .ref b]) = H2 at s2 hTt hb2 ⊢
      walk_at "rd"
      refine it (fun h1 => ?_) (fun h1 => ?_)
      · have hn : cs[i] = none := by
          cases q : cs[i] with
          | none => rfl
          | some n => rw [q] at h1; exact absurd h1 (fun z => nomatch (show V.int n = V.non from z))
        rw [hn] at hz et
        walk_at "rd"
        refine it (fun h2 => ?_) (fun h2 => ?_)
        · unfold tMkO
          walk_at "rd"
          exact r_bad fun d' H' s4 _ h => kE i hz h2 d' H' (s2.trans s4) h
        · walk_at "rd"
          have e0 : ((cs.take i).filter Option.isNone).length = 0 := by omega
          have e1 : ((cs.take (i + 1)).filter Option.isNone).length = 1 := by
            rw [et, List.filter_append, List.length_append, e0]
            rfl
          refine ⟨some (.int (i : Nat)), some (.ref b), ?_, s2, by rw [e1]; exact Nat.le_refl _⟩
          rw [e1]
          rfl
      · walk_at "rd"
        have hn : cs[i].isNone = false := by
          cases q : cs[i] with
          | none => rw [q] at h1; exact absurd rfl h1
          | some n => rfl
        have e1 : (cs.take (i + 1)).filter Option.isNone = (cs.take i).filter Option.isNone := by
          rw [et, List.filter_append, List.filter_cons_of_neg (by rw [hn]; exact Bool.false_ne_true), List.filter_nil, List.append_nil]
        refine ⟨some (.int (i : Nat)), some (.ref b), ?_, s2, by rw [e1]; exact hle⟩
        rw [e1]
    · rintro σ' H1 ⟨q2, q3, rfl, s1, hle⟩
      rw [show xs.length = cs.length by omega, List.take_of_length_le (Nat.le_refl _)] at hle
      exact kQ hle H1 s1
end
end KN
end
section
set_option Elab.async false
set_option linter.all false
set_option maxRecDepth 100000
set_option maxHeartbeats 4000000
set_option pp.maxSteps 1500
set_option pp.deepTerms false
local macro_rules | `(tactic| walk_at "ne") => `(tactic| first
  | assumption | (apply Ne.symm; assumption)
  | exact R.ne_new (by assumption) | exact (R.ne_new (by assumption)).symm
  | exact L2.ne_of_none (by assumption) (by assumption) | exact (L2.ne_of_none (by assumption) (by assumption)).symm
  | exact L2.ne_of_none (by assumption) (R.free_new (by assumption)) | exact (L2.ne_of_none (by assumption) (R.free_new (by assumption))).symm)
local macro_rules | `(tactic| walk_at "at") => `(tactic| first
  | assumption | exact L2.upd_same
  | (refine R.sb (H := ?H) (p := ?p) ?e ?n ?h; (case e => assumption); (case n => walk_at "ne"); (case h => walk_at "at"))
  | (refine R.sm (H := ?H) ?e ?h; (case e => assumption); (case h => walk_at "at"))
  | (refine Eq.trans (L2.upd_ne ?_) ?_ <;> first | walk_at "ne" | walk_at "at"))
local macro_rules | `(tactic| walk_at "sqt") => `(tactic| first | assumption | (refine L2.SqT.of ?_; walk_at "at"))
local macro_rules | `(tactic| walk_at "ty") => `(tactic| first | exact R.tyN | exact R.tyB | exact R.tyI | exact R.tyS | (refine R.tyT (xs := ?xs) ?h; case h => walk_at "at") | (refine R.tyL (xs := ?xs) ?h; case h => walk_at "at"))
local macro_rules | `(tactic| walk_at "kit") => `(tactic| first | exact R.kit_NoneType_tuple | exact R.kit_NoneType_list | exact R.kit_NoneType_bool | exact R.kit_NoneType_str | exact R.kit_NoneType_int | exact R.kit_bool_tuple | exact R.kit_bool_list | exact R.kit_bool_bool | exact R.kit_bool_str | exact R.kit_bool_int | exact R.kit_int_tuple | exact R.kit_int_list | exact R.kit_int_bool | exact R.kit_int_str | exact R.kit_int_int | exact R.kit_str_tuple | exact R.kit_str_list | exact R.kit_str_bool | exact R.kit_str_str | exact R.kit_str_int | exact R.kit_tuple_tuple | exact R.kit_tuple_list | exact R.kit_tuple_bool | exact R.kit_tuple_str | exact R.kit_tuple_int | exact R.kit_list_tuple | exact R.kit_list_list | exact R.kit_list_bool | exact R.kit_list_str | exact R.kit_list_int)
local macro_rules | `(tactic| walk_at "sz") => `(tactic| first | assumption | (refine Nat.le_trans ?_ (show 1000 ≤ PySem.sizeLine by decide); omega) | decide)
local macro_rules | `(tactic| walk_at "szl") => `(tactic| first | assumption | exact Nat.le_of_lt (L2.small1000 (by omega)) | decide | decide +kernel)
local macro_rules | `(tactic| walk_at "sqa") => `(tactic| first | assumption | exact R.SeqA.same (by assumption) (by assumption) | exact R.SeqA.new (by assumption) (by assumption) | (exact Or.inl (by walk_at "at")) | (exact Or.inr (by walk_at "at")))
local macro_rules | `(tactic| walk_at "ix") => `(tactic| first | rfl | (exact L2.atI_nat (by assumption)) | assumption)
local macro_rules | `(tactic| walk_at "cond") => `(tactic| first
  | exact Or.inl (by decide) | exact Or.inr (by decide) | exact Or.inl ⟨by omega, by omega⟩ | exact Or.inr ⟨by omega, by omega⟩
  | (constructor <;> omega) | (show _ ≠ _; omega) | decide | omega)
local macro_rules | `(tactic| walk_at "r1") => `(tactic| first
  | with_reducible refine R.seq ?_ | with_reducible refine R.asg ?_ | with_reducible refine R.ifs ?_ | with_reducible refine R.ret ?_ | with_reducible refine R.retN ?_ | with_reducible refine R.drop ?_ | with_reducible refine R.next ?_
  | with_reducible refine R.op ?_ | ((with_reducible refine R.var (v := ?v) ?h ?q); case h => rfl) | with_reducible refine R.c ?_ | with_reducible refine R.tst ?_ | with_reducible refine R.tb_ ?_ | with_reducible refine R.ex ?_
  | with_reducible refine R.i0 ?_ | with_reducible refine R.eqI ?_ | with_reducible refine R.neI ?_ | ((with_reducible refine R.ic ?_ ?_); · walk_at "cond") | with_reducible refine R.u0 ?_ | with_reducible refine R.un ?_
  | ((with_reducible refine R.eq ?_ ?_); · rfl) | ((with_reducible refine R.ne ?_ ?_); · rfl)
  | with_reducible refine R.and_ ?_ | with_reducible refine R.or_ ?_ | with_reducible refine R.not_ ?_ | with_reducible refine R.ife ?_ | with_reducible refine R.chain ?_
  | with_reducible refine R.cons ?_ | with_reducible refine R.nil ?_ | with_reducible refine R.call ?_ | with_reducible refine R.cb ?_ | with_reducible refine R.bm ?_
  | with_reducible refine R.gname ?_ | with_reducible refine R.gsub ?_ | with_reducible refine R.gnil ?_ | with_reducible refine R.gcons ?_ | with_reducible refine R.yes ?_
  | with_reducible refine R.int1 ?_ | ((with_reducible refine R.lenL (xs := ?xs) ?h ?q); case h => walk_at "at")
  | ((with_reducible refine R.ixL (xs := ?xs) (v := ?v) ?h ?e ?q); (case h => walk_at "at"); (case e => walk_at "ix"))
  | ((with_reducible refine R.setL (xs := ?xs) (n := ?n) ?h ?e ?q); (case h => walk_at "at"); (case e => rfl))
  | ((with_reducible refine R.append (xs := ?xs) ?h ?e ?q); (case h => walk_at "at"); (case e => walk_at "cond"))
  | with_reducible refine R.is_ ?_ | with_reducible refine R.isnot ?_ | with_reducible refine R.andV ?_ | with_reducible refine R.orV ?_ | with_reducible refine R.notV ?_
  | ((with_reducible refine R.isi (s := ?s) (b := ?b) ?ty ?h ?q); (case ty => walk_at "ty"); (case h => walk_at "kit"))
  | ((with_reducible refine R.addS ?h ?q); (case h => walk_at "sz")) | with_reducible refine R.max2 ?_ | with_reducible refine R.min2 ?_
  | ((with_reducible refine R.lenStr ?h ?q); (case h => walk_at "szl")) | ((with_reducible refine R.ixS (n := ?n) ?h ?e ?q); (case h => walk_at "szl"); (case e => walk_at "ix"))
  | ((with_reducible refine R.tyl (xs := ?xs) ?h ?q); (case h => walk_at "at")) | with_reducible refine R.itlist ?_ | with_reducible refine R.ittup ?_ | with_reducible refine R.m1 ?_ | with_reducible refine R.m1s ?_ | with_reducible refine R.leS ?_ | with_reducible refine R.itstr ?_ | with_reducible refine R.itstrE ?_ | with_reducible refine R.lc ?_ | with_reducible refine R.for_ ?_ | ((with_reducible refine R.all_ (bs := ?bs) ?h ?q); (case h => walk_at "at"))
  | with_reducible refine R.rng1 ?_ | ((with_reducible refine R.rngE ?h ?q); (case h => (constructor <;> omega)))
  | ((with_reducible refine R.lenT (xs := ?xs) ?h ?q); (case h => walk_at "sqt")) | ((with_reducible refine R.ixT (xs := ?xs) (v := ?v) ?h ?e ?q); (case h => walk_at "sqt"); (case e => walk_at "ix"))
  | ((refine R.itlE (xs := ?xs) ?h ?q); (case h => walk_at "at")) | ((refine R.ittE (xs := ?xs) ?h ?q); (case h => walk_at "at"))
  | ((refine R.gseq (xs := ?xs) ?h ?e ?q); (case h => walk_at "sqa"); (case e => rfl)) | ((refine R.ixA (xs := ?xs) (v := ?v) ?h ?e ?q); (case h => walk_at "sqa"); (case e => walk_at "ix")) | ((refine R.lenA (xs := ?xs) ?h ?q); (case h => walk_at "sqa"))
  | ((with_reducible refine R.gtup (xs := ?xs) ?h ?e ?q); (case h => walk_at "sqt"); (case e => rfl))
  | with_reducible refine R.din_ ?_ | with_reducible refine R.dput_ ?_
  | with_reducible refine R.sfld ?_ | with_reducible refine R.fld_ ?_ | with_reducible refine R.dc ?_
  | with_reducible refine R.dget1_ ?_
  | with_reducible refine R.itseq ?_ | with_reducible refine R.itenum ?_
  | with_reducible refine R.itT ?_ | with_reducible refine R.itF ?_ | with_reducible refine R.itNT ?_ | with_reducible refine R.itNF ?_
  | (with_reducible refine R.tup ?_) | (with_reducible refine R.lst ?_))
local macro_rules | `(tactic| walk_at "rd") => `(tactic| (repeat (first | walk_at "r1" | (dsimp only [Int.reduceToNat, List.set_cons_succ, List.set_cons_zero, List.length_cons, List.length_nil, List.nil_append, List.cons_append, List.append_nil]))))
local macro_rules | `(tactic| walk_at "go") => `(tactic| (rw [R.start_eq]; dsimp only [R.startE, List.map_nil]; walk_at "rd"))
namespace KN
open PySem L2 SX R
open C8 (Cal Def cal0 pe_c pe_gc fnScope fnBody)
section
variable {P : Program} {w : World} {K : PySem.W.Frag} {mg : Str → Option Value} {base : Heap}
abbrev sSysI : Stmt := inClass (top 15) 0
theorem scSysI : FnScope ["self", "simple", "multipliers", "row", "word", "value"] ["self", "simple", "multipliers"] (defScope sSysI) := ⟨rfl, rfl, rfl, by decide +kernel, rfl, by decide +kernel, by decide +kernel⟩
/-- what stands of System, at S -/
structure SysK (K : PySem.W.Frag) (S : Addr) : Prop where
  cl : Cls K S
  nS : NoAttr K S "simple"
  nM : NoAttr K S "multipliers"
  nV : NoAttr K S "_values"
  nR : NoAttr K S "_rows"
structure GoodSys (rs : List SR) (ms : List MR) : Prop where
  s : ∀ r ∈ rs, GoodS r
  m : ∀ r ∈ ms, GoodM r
  nd : (rs.map (·.w) ++ ms.map (·.w)).Nodup
  sl : rs.length ≤ 24
  ml : ms.length ≤ 6
  one : (ms.filter fun r => r.c.isNone).length ≤ 1
def SRows (ds : List (List V)) (os : List (Option Str)) : Prop := os.length = ds.length ∧ ∀ (i : Nat) (d : List V) (o : Option Str), ds[i]? = some d → os[i]? = some o → SShape d ∧ o = sF d
def MRows (ds : List (List V)) (os : List (Option Str)) : Prop := os.length = ds.length ∧ ∀ (i : Nat) (d : List V) (o : Option Str), ds[i]? = some d → os[i]? = some o → MShape d o
/-- what is told of two lists that make no system -/
inductive Fault : List (List V) → List (List V) → V → V → V → Prop
  | many1 {ds es : List (List V)} {os : List (Option Str)} (h : SRows ds os) (l : 24 < ds.length) (l2 : ds.length ≤ 1000) : Fault ds es (.str "simple") .non (.str "many")
  | row1 {ds es : List (List V)} {os : List (Option Str)} (h : SRows ds os) (l : ds.length ≤ 24) {j : Nat} {r : Str} (hj : os[j]? = some (some r)) (ha : ∀ i, i < j → os[i]? = some none) : Fault ds es (.str "simple") (.int j) (.str r)
  | many2 {rs : List SR} {es : List (List V)} {os : List (Option Str)} (g : ∀ r ∈ rs, GoodS r) (gl : rs.length ≤ 24) (h : MRows es os) (l : 6 < es.length) (l2 : es.length ≤ 1000) : Fault (rs.map srV) es (.str "multipliers") .non (.str "many")
  | row2 {rs : List SR} {es : List (List V)} {os : List (Option Str)} (g : ∀ r ∈ rs, GoodS r) (gl : rs.length ≤ 24) (h : MRows es os) (l : es.length ≤ 6) {j : Nat} {r : Str} (hj : os[j]? = some (some r)) (ha : ∀ i, i < j → os[i]? = some none) :
      Fault (rs.map srV) es (.str "multipliers") (.int j) (.str r)
  | twice {rs : List SR} {ms : List MR} (g : ∀ r ∈ rs, GoodS r) (gl : rs.length ≤ 24) (gm : ∀ r ∈ ms, GoodM r) (ml : ms.length ≤ 6) {i : Nat} {z : Str} (hi : (rs.map (·.w) ++ ms.map (·.w))[i]? = some z)
      (hn : ((rs.map (·.w) ++ ms.map (·.w)).take i).Nodup) (hm : z ∈ (rs.map (·.w) ++ ms.map (·.w)).take i) : Fault (rs.map srV) (ms.map mrV) (partV rs.length i) (ixV rs.length i) (.str "twice")
  | endless {rs : List SR} {ms : List MR} (g : ∀ r ∈ rs, GoodS r) (gl : rs.length ≤ 24) (gm : ∀ r ∈ ms, GoodM r) (ml : ms.length ≤ 6) (hn : (rs.map (·.w) ++ ms.map (·.w)).Nodup) {i : Nat} (hi : (ms.map (·.c))[i]? = some none)
      (h1 : (((ms.map (·.c)).take i).filter Option.isNone).length = 1) : Fault (rs.map srV) (ms.map mrV) (.str "multipliers") (.int i) (.str "endless")
def sysFs (s m v r : Addr) : List (Str × V) := [("simple", .ref s), ("multipliers", .ref m), ("_values", .ref v), ("_rows", .ref r)]
/-- a system stands at x -/
def SysAt (S : Addr) (H : Hp) (x : Addr) (rs : List SR) (ms : List MR) : Prop := ∃ (dx s m v r : Addr) (xs ys : List V), H x = some (.ins S dx (sysFs s m v r)) ∧ H s = some (.tup xs) ∧ TupsAt H xs (rs.map srV) ∧ H m = some (.tup ys) ∧ TupsAt H ys (ms.map mrV) ∧
  H v = some (.dK (rs.map fun r => ((Sum.inr r.w : Key), V.int r.v))) ∧ H r = some (.dK (((ms.map (·.w)).zip ys).map fun q => ((Sum.inr q.1 : Key), q.2)))
theorem SysAt.same {S : Addr} {H H' : Hp} {x : Addr} {rs : List SR} {ms : List MR} (s : Same H H') (h : SysAt S H x rs ms) : SysAt S H' x rs ms := by
  obtain ⟨dx, a, m, v, r, xs, ys, h1, h2, h3, h4, h5, h6, h7⟩ := h
  exact ⟨dx, a, m, v, r, xs, ys, s _ _ h1, s _ _ h2, h3.keep (fun a d q => s _ _ q), s _ _ h4, h5.keep (fun a d q => s _ _ q), s _ _ h6, s _ _ h7⟩
def spSysI (S C : Addr) : Sp := fun vs H Q E => ∃ (x dx a c : Addr) (ds es : List (List V)), vs = [.ref x, .ref a, .ref c] ∧ H x = some (.ins S dx []) ∧ RowsIn H a ds ∧ RowsIn H c es ∧
  ((∃ p n r, Fault ds es p n r ∧ ∀ (d : Addr) (H' : Hp), Same H H' → H' d = some (.xd (badFs p n r)) → E (.ref C) (some d) H') ∨
   (∃ rs ms, ds = rs.map srV ∧ es = ms.map mrV ∧ GoodSys rs ms ∧ ∀ H' : Hp, SameBut x H H' → SysAt S H' x rs ms → Q .non H'))
theorem r_ck_many {C fS fM a f : Addr} {H : Hp} {Q : VK} {E : XK} {part : Str} {most : Int} {ds : List (List V)} {os : List (Option Str)} (hR : RowsIn H a ds) (kind : (f = fS ∧ SRows ds os) ∨ (f = fM ∧ MRows ds os)) (l : most < ds.length) (l2 : ds.length ≤ 1000)
    (k : ∀ (d : Addr) (H' : Hp), Same H H' → H' d = some (.xd (badFs (.str part) .non (.str "many"))) → E (.ref C) (some d) H') : spCheck C fS fM [.str part, .ref a, .int most, .ref f] H Q E := by
  refine ⟨part, a, f, most, ds, os, rfl, hR, ?_, ?_, l2, ?_, fun _ => k, fun z => absurd z (by omega), fun z => absurd z (by omega)⟩
  · rcases kind with ⟨h, _⟩ | ⟨h, _⟩
    · exact .inl h
    · exact .inr h
  · rcases kind with ⟨_, h, _⟩ | ⟨_, h, _⟩ <;> exact h
  · intro i d o h1 h2
    rcases kind with ⟨h, _, g⟩ | ⟨h, _, g⟩
    · exact .inl ⟨h, g i d o h1 h2⟩
    · exact .inr ⟨h, g i d o h1 h2⟩
theorem r_ck_row {C fS fM a f : Addr} {H : Hp} {Q : VK} {E : XK} {part : Str} {most : Int} {ds : List (List V)} {os : List (Option Str)} (hR : RowsIn H a ds) (kind : (f = fS ∧ SRows ds os) ∨ (f = fM ∧ MRows ds os)) (l : (ds.length : Int) ≤ most) (m1 : most ≤ 1000)
    {j : Nat} {r : Str} (hj : os[j]? = some (some r)) (ha : ∀ i, i < j → os[i]? = some none)
    (k : ∀ (d : Addr) (H' : Hp), Same H H' → H' d = some (.xd (badFs (.str part) (.int j) (.str r))) → E (.ref C) (some d) H') : spCheck C fS fM [.str part, .ref a, .int most, .ref f] H Q E := by
  have ol : os.length = ds.length := by rcases kind with ⟨_, h, _⟩ | ⟨_, h, _⟩ <;> exact h
  have hjl : j < os.length := (List.getElem?_eq_some_iff.mp hj).1
  refine ⟨part, a, f, most, ds, os, rfl, hR, ?_, ol, by omega, ?_, fun z => absurd z (by omega), fun _ j' r' hj' ha' d H' s1 e => ?_, fun _ z => ?_⟩
  · rcases kind with ⟨h, _⟩ | ⟨h, _⟩
    · exact .inl h
    · exact .inr h
  · intro i d o h1 h2
    rcases kind with ⟨h, _, g⟩ | ⟨h, _, g⟩
    · exact .inl ⟨h, g i d o h1 h2⟩
    · exact .inr ⟨h, g i d o h1 h2⟩
  · have ej : j' = j := by
      rcases Nat.lt_trichotomy j' j with q | q | q
      · rw [ha j' q] at hj'; cases hj'
      · exact q
      · rw [ha' j q] at hj; cases hj
    subst ej
    rw [hj] at hj'
    cases hj'
    exact k d H' s1 e
  · rw [z j (by omega)] at hj
    cases hj
theorem r_ck_ok {C fS fM a f : Addr} {H : Hp} {Q : VK} {E : XK} {part : Str} {most : Int} {ds : List (List V)} {os : List (Option Str)} (hR : RowsIn H a ds) (kind : (f = fS ∧ SRows ds os) ∨ (f = fM ∧ MRows ds os)) (l : (ds.length : Int) ≤ most) (m1 : most ≤ 1000)
    (hn : ∀ (i : Nat) (o : Option Str), os[i]? = some o → o = none) (k : ∀ H', Same H H' → Q .non H') : spCheck C fS fM [.str part, .ref a, .int most, .ref f] H Q E := by
  have ol : os.length = ds.length := by rcases kind with ⟨_, h, _⟩ | ⟨_, h, _⟩ <;> exact h
  refine ⟨part, a, f, most, ds, os, rfl, hR, ?_, ol, by omega, ?_, fun z => absurd z (by omega), fun _ j' r' hj' _ _ _ _ _ => ?_, fun _ _ => k⟩
  · rcases kind with ⟨h, _⟩ | ⟨h, _⟩
    · exact .inl h
    · exact .inr h
  · intro i d o h1 h2
    rcases kind with ⟨h, _, g⟩ | ⟨h, _, g⟩
    · exact .inl ⟨h, g i d o h1 h2⟩
    · exact .inr ⟨h, g i d o h1 h2⟩
  · have := hn _ _ hj'
    cases this
theorem len_good {z : Str} (h : GoodW z) : z.length ≤ 1000 := by
  obtain ⟨cs, rfl, h1, h2, _⟩ := h
  rw [S_len]; omega
theorem sfc_good {r : SR} (h : GoodS r) : sF (srV r) = none := by
  show sfc r.w r.v = none
  unfold sfc
  rw [if_pos (okW_of h.w), if_pos ⟨h.lo, h.hi⟩]
theorem mfc_good {m : MR} (h : GoodM m) : mfc m.w m.v m.c m.r = none := by
  unfold mfc
  have e1 : cOk m.c = true := by
    cases q : m.c with
    | none => rfl
    | some n => obtain ⟨a, b, _⟩ := h.c n q; exact decide_eq_true ⟨a, b⟩
  have e2 : lOk m.v m.r m.c = true := by
    cases q : m.c with
    | none => rfl
    | some n => obtain ⟨_, _, c⟩ := h.c n q; exact decide_eq_true c
  rw [if_pos (okW_of h.w), if_pos ⟨h.lo, h.hi⟩, if_pos e1, if_pos ⟨h.r0, h.r1⟩, if_pos e2]
theorem srows_good {rs : List SR} (g : ∀ r ∈ rs, GoodS r) : SRows (rs.map srV) (List.replicate rs.length none) := by
  refine ⟨by simp, fun i d o h1 h2 => ?_⟩
  rw [List.getElem?_map] at h1
  cases q : rs[i]? with
  | none => rw [q] at h1; cases h1
  | some r =>
    rw [q] at h1
    cases h1
    have hr := g r (List.mem_of_getElem? q)
    have ho : o = none := by
      have := List.mem_of_getElem? h2
      exact (List.mem_replicate.mp this).2
    subst ho
    exact ⟨.yes _ _ (len_good hr.w), (sfc_good hr).symm⟩
theorem mrows_good {ms : List MR} (g : ∀ r ∈ ms, GoodM r) : MRows (ms.map mrV) (List.replicate ms.length none) := by
  refine ⟨by simp, fun i d o h1 h2 => ?_⟩
  rw [List.getElem?_map] at h1
  cases q : ms[i]? with
  | none => rw [q] at h1; cases h1
  | some r =>
    rw [q] at h1
    cases h1
    have hr := g r (List.mem_of_getElem? q)
    have ho : o = none := by
      have := List.mem_of_getElem? h2
      exact (List.mem_replicate.mp this).2
    subst ho
    have z := MShape.yes r.w r.v r.c r.u r.r (len_good hr.w)
    rw [mfc_good hr] at z
    exact z
theorem rep_none {n : Nat} (i : Nat) (o : Option Str) (h : (List.replicate n (none : Option Str))[i]? = some o) : o = none := (List.mem_replicate.mp (List.mem_of_getElem? h)).2
theorem words_s {H : Hp} {a : Addr} {rs : List SR} (h : RowsIn H a (rs.map srV)) : WordsIn H a (rs.map (·.w)) := by
  refine ⟨_, h, by simp, fun i z e => ?_⟩
  rw [List.getElem?_map] at e
  cases q : rs[i]? with
  | none => rw [q] at e; cases e
  | some r => rw [q] at e; cases e; exact ⟨[.int r.v], by rw [List.getElem?_map, q]; rfl⟩
theorem words_m {H : Hp} {a : Addr} {ms : List MR} (h : RowsIn H a (ms.map mrV)) : WordsIn H a (ms.map (·.w)) := by
  refine ⟨_, h, by simp, fun i z e => ?_⟩
  rw [List.getElem?_map] at e
  cases q : ms[i]? with
  | none => rw [q] at e; cases e
  | some r => rw [q] at e; cases e; exact ⟨[.int r.v, ocnt r.c, .bl r.u, .int r.r], by rw [List.getElem?_map, q]; rfl⟩
theorem counts_m {H : Hp} {a : Addr} {ms : List MR} (h : RowsIn H a (ms.map mrV)) : CountsIn H a (ms.map (·.c)) := by
  refine ⟨_, h, by simp, fun i o e => ?_⟩
  rw [List.getElem?_map] at e
  cases q : ms[i]? with
  | none => rw [q] at e; cases e
  | some r => rw [q] at e; cases e; exact ⟨mrV r, by rw [List.getElem?_map, q]; rfl, rfl⟩
theorem none_two {cs : List (Option Int)} {i : Nat} (hi : cs[i]? = some none) (h1 : ((cs.take i).filter Option.isNone).length = 1) {j : Nat} (hj : i < j) : 2 ≤ ((cs.take j).filter Option.isNone).length := by
  have e1 : cs.take (i + 1) = cs.take i ++ [none] := by rw [List.take_add_one, hi]; rfl
  have e2 : (cs.take j).take (i + 1) = cs.take (i + 1) := by rw [List.take_take]; congr 1; omega
  have e3 : ((cs.take (i + 1)).filter Option.isNone).length = 2 := by
    rw [e1, List.filter_append, List.length_append, h1]
    rfl
  have sl : (cs.take (i + 1)).Sublist (cs.take j) := by rw [← e2]; exact List.take_sublist _ _
  have := (sl.filter Option.isNone).length_le
  omega
theorem none_all {cs : List (Option Int)} {i : Nat} (hi : cs[i]? = some none) (h1 : ((cs.take i).filter Option.isNone).length = 1) : ¬ (cs.filter Option.isNone).length ≤ 1 := fun h => by
  have hil := (List.getElem?_eq_some_iff.mp hi).1
  have := none_two hi h1 hil
  rw [List.take_length] at this
  omega
theorem none_count (ms : List MR) : ((ms.map (·.c)).filter Option.isNone).length = (ms.filter fun r => r.c.isNone).length := by
  rw [List.filter_map, List.length_map]
  rfl
theorem seqA_putI {H : Hp} {a x S dx : Addr} {xs : List V} {fs : List (Str × V)} {o : HO} (h : SeqA H a xs) (hx : H x = some (.ins S dx fs)) : SeqA (upd H x o) a xs := by
  rcases h with h | h
  · exact .inl (by rw [upd_ne (ne_of h hx (by intro z; cases z))]; exact h)
  · exact .inr (by rw [upd_ne (ne_of h hx (by intro z; cases z))]; exact h)
theorem RowsIn.putI {H : Hp} {a x S dx : Addr} {ds : List (List V)} {fs : List (Str × V)} {o : HO} (h : RowsIn H a ds) (hx : H x = some (.ins S dx fs)) : RowsIn (upd H x o) a ds := by
  obtain ⟨xs, h1, h2, h3⟩ := h
  exact ⟨xs, seqA_putI h1 hx, h2, fun i d e => let ⟨b, hb, hd⟩ := h3 i d e; ⟨b, hb, seqA_putI hd hx⟩⟩
theorem keep_ins {H : Hp} {x S dx : Addr} {fs : List (Str × V)} {o : HO} (hx : H x = some (.ins S dx fs)) : TupKeep H (upd H x o) := fun b d h => by
  rw [upd_ne (ne_of h hx (by intro z; cases z))]; exact h
theorem pf2 (u v : V) : putF "multipliers" v [("simple", u)] = ([("simple", u), ("multipliers", v)] : List (Str × V)) := by
  unfold putF; rw [if_neg (by decide +kernel)]; rfl
theorem pf3 (u v z : V) : putF "_values" z [("simple", u), ("multipliers", v)] = ([("simple", u), ("multipliers", v), ("_values", z)] : List (Str × V)) := by
  unfold putF; rw [if_neg (by decide +kernel)]; unfold putF; rw [if_neg (by decide +kernel)]; rfl
theorem pf4 (u v z y : V) : putF "_rows" y [("simple", u), ("multipliers", v), ("_values", z)] = ([("simple", u), ("multipliers", v), ("_values", z), ("_rows", y)] : List (Str × V)) := by
  unfold putF; rw [if_neg (by decide +kernel)]; unfold putF; rw [if_neg (by decide +kernel)]; unfold putF; rw [if_neg (by decide +kernel)]; rfl
theorem put_next {α : Type} (f : α → Key × V) (l : List α) (a : α) (h : (f a).1 ∉ l.map fun b => (f b).1) : putK (l.map f) (f a).1 (f a).2 = (l ++ [a]).map f := by
  have e : valV (l.map f) (f a).1 = none := by
    cases q : valV (l.map f) (f a).1 with
    | none => rfl
    | some v =>
      have := valV_in q
      rw [List.map_map] at this
      exact absurd this h
  rw [putK_new _ e, List.map_append]
  rfl
theorem not_before {α β : Type} {g : α → β} {l : List α} (hn : (l.map g).Nodup) {i : Nat} {a : α} (h : l[i]? = some a) : g a ∉ (l.take i).map g := fun hm => by
  have e : l.take (i + 1) = l.take i ++ [a] := by rw [List.take_add_one, h]; rfl
  have n2 : ((l.take (i + 1)).map g).Nodup := hn.sublist ((List.take_sublist _ _).map g)
  rw [e, List.map_append, List.nodup_append] at n2
  exact n2.2.2 _ hm _ (by simp) rfl
theorem ok_sysI (Z : Zs mg) (CC : Cs mg) {S C fS fM : Addr} (TS : SysK K S) (g_simple_fault : ∃ u, mg "simple_fault" = some u ∧ RelV (.ref fS) u) (g_multiplier_fault : ∃ u, mg "multiplier_fault" = some u ∧ RelV (.ref fM) u)
    (c_check_rows : CalX P w K mg base 3 "check_rows" (spCheck C fS fM)) (c_check_twice : CalX P w K mg base 3 "check_twice" (spTwice C)) (c_check_endless : CalX P w K mg base 3 "check_endless" (spEndl C))
    {f : Addr} {fd : FuncData} (F : Fun K "__init__" "System.__init__" sSysI f fd) : FnOk P w K mg base (L2.CX P w) 4 f fd ["self", "simple", "multipliers"] (spSysI S C) := by
  refine F.okX scSysI (fun vs H Q E h => ?_) (fun cdv A outer s H vs Q E hr h => ?_)
  · obtain ⟨x, dx, a, c, ds, es, rfl, _⟩ := h
    rfl
  · obtain ⟨x, dx, a, c, ds, es, rfl, hx, hA, hC, h⟩ := h
    refine ⟨_, pss_cons (ps_expr (pe_cx c_check_rows hr (by omega) (takes_of rfl rfl rfl rfl) (by rfl) (pa_cons pe_str (pa_cons (pv 1) (pa_cons (pe_gc (by rfl) CC.MOST_SIMPLE) (pa_cons (pe_gc (by rfl) g_simple_fault) pa_nil))))))
      (pss_cons (ps_expr (pe_cx c_check_rows hr (by omega) (takes_of rfl rfl rfl rfl) (by rfl) (pa_cons pe_str (pa_cons (pv 2) (pa_cons (pe_gc (by rfl) CC.MOST_MULTIPLIERS) (pa_cons (pe_gc (by rfl) g_multiplier_fault) pa_nil))))))
      (pss_cons (ps_expr (pe_cx c_check_twice hr (by omega) (takes_of rfl rfl rfl rfl) (by rfl) (pa_cons (pv 1) (pa_cons (pv 2) pa_nil))))
      (pss_cons (ps_expr (pe_cx c_check_endless hr (by omega) (takes_of rfl rfl rfl rfl) (by rfl) (pa_cons (pv 2) pa_nil)))
      (pss_cons (kFldS K (ps_fld (pv 0) (pe_callTy (kTuple K) (by rfl) Z.tuple (by decide +kernel) (pa_cons (pe_lc (own := [("row", 3)]) (g := gName 3) (tt := tYes) rfl scSysI.nd (kiSeq K (pv 1)) (blkOk_by (own := [("row", 3)]) (N := ["self", "simple", "multipliers", "row", "word", "value"]) (sc := defScope sSysI) (by decide +kernel)) (fun _ _ _ _ _ => (pg_name (i := 3) scSysI.nd rfl (Or.inl rfl))) (fun _ _ _ _ _ => pts_nil) (fun _ _ _ _ _ => pe_callTy (kTuple K) (by rfl) Z.tuple (by decide +kernel) (pa_cons (pv 3) pa_nil))) pa_nil)) rfl))
      (pss_cons (kFldS K (ps_fld (pv 0) (pe_callTy (kTuple K) (by rfl) Z.tuple (by decide +kernel) (pa_cons (pe_lc (own := [("row", 3)]) (g := gName 3) (tt := tYes) rfl scSysI.nd (kiSeq K (pv 2)) (blkOk_by (own := [("row", 3)]) (N := ["self", "simple", "multipliers", "row", "word", "value"]) (sc := defScope sSysI) (by decide +kernel)) (fun _ _ _ _ _ => (pg_name (i := 3) scSysI.nd rfl (Or.inl rfl))) (fun _ _ _ _ _ => pts_nil) (fun _ _ _ _ _ => pe_callTy (kTuple K) (by rfl) Z.tuple (by decide +kernel) (pa_cons (pv 3) pa_nil))) pa_nil)) rfl))
      (pss_cons (kFldS K (ps_fld (pv 0) (pe_dc (own := [("word", 4), ("value", 5)]) (tt := tYes) rfl scSysI.nd (kiT K (kFld K (pv 0))) (blkOk_by (own := [("word", 4), ("value", 5)]) (N := ["self", "simple", "multipliers", "row", "word", "value"]) (sc := defScope sSysI) (by decide +kernel)) (fun _ _ _ _ _ => (kgTup K (n := 2) rfl (pgs_cons (pg_name (i := 4) scSysI.nd rfl (Or.inl rfl)) (pgs_cons (pg_name (i := 5) scSysI.nd rfl (Or.inl rfl)) pgs_nil)))) (fun _ _ _ _ _ => pts_nil) (fun _ _ _ _ _ => pv 4) (fun _ _ _ _ _ => pv 5)) rfl))
      (pss_one (kFldS K (ps_fld (pv 0) (pe_dc (own := [("row", 3)]) (tt := tYes) rfl scSysI.nd (kiT K (kFld K (pv 0))) (blkOk_by (own := [("row", 3)]) (N := ["self", "simple", "multipliers", "row", "word", "value"]) (sc := defScope sSysI) (by decide +kernel)) (fun _ _ _ _ _ => (pg_name (i := 3) scSysI.nd rfl (Or.inl rfl))) (fun _ _ _ _ _ => pts_nil) (fun _ _ _ _ _ => pe_ix (kIxA K) (pv 3) pe_int (fun _ _ => rfl)) (fun _ _ _ _ _ => pv 3)) rfl))))))))), ?_⟩
    walk_at "go"
    rcases h with ⟨p, n, r, hf, kE⟩ | ⟨rs, ms, rfl, rfl, hg, kQ⟩
    · cases hf with
      | many1 h l l2 => exact r_ck_many hA (.inl ⟨rfl, h⟩) (by omega) l2 kE
      | row1 h l hj ha => exact r_ck_row hA (.inl ⟨rfl, h⟩) (by omega) (by decide) hj ha kE
      | @many2 rs es os g gl h l l2 =>
        refine r_ck_ok hA (.inl ⟨rfl, srows_good g⟩) (by rw [List.length_map]; omega) (by decide) rep_none fun H1 s1 => ?_
        walk_at "rd"
        exact r_ck_many (hC.same s1) (.inr ⟨rfl, h⟩) (by omega) l2 fun d H' s2 e => kE d H' (s1.trans s2) e
      | @row2 rs es os g gl h l j r hj ha =>
        refine r_ck_ok hA (.inl ⟨rfl, srows_good g⟩) (by rw [List.length_map]; omega) (by decide) rep_none fun H1 s1 => ?_
        walk_at "rd"
        exact r_ck_row (hC.same s1) (.inr ⟨rfl, h⟩) (by omega) (by decide) hj ha fun d H' s2 e => kE d H' (s1.trans s2) e
      | @twice rs ms g gl gm ml i z hi hn hm =>
        refine r_ck_ok hA (.inl ⟨rfl, srows_good g⟩) (by rw [List.length_map]; omega) (by decide) rep_none fun H1 s1 => ?_
        walk_at "rd"
        refine r_ck_ok (hC.same s1) (.inr ⟨rfl, mrows_good gm⟩) (by rw [List.length_map]; omega) (by decide) rep_none fun H2 s2 => ?_
        walk_at "rd"
        refine ⟨a, c, rs.map (·.w), ms.map (·.w), rfl, words_s (hA.same (s1.trans s2)), words_m (hC.same (s1.trans s2)), by rw [List.length_map, List.length_map]; omega, fun i' z' hi' hn' hm' d H' s3 e => ?_, fun hnd => ?_⟩
        · have ei : i' = i := by
            have key : ∀ (u v : Nat) (y : Str), u < v → (rs.map (·.w) ++ ms.map (·.w))[u]? = some y → y ∈ (rs.map (·.w) ++ ms.map (·.w)).take u → ¬ ((rs.map (·.w) ++ ms.map (·.w)).take v).Nodup := fun u v y huv hu hy hnd => by
              have e1 : (rs.map (·.w) ++ ms.map (·.w)).take (u + 1) = (rs.map (·.w) ++ ms.map (·.w)).take u ++ [y] := by rw [List.take_add_one, hu]; rfl
              have e2 : ((rs.map (·.w) ++ ms.map (·.w)).take v).take (u + 1) = (rs.map (·.w) ++ ms.map (·.w)).take (u + 1) := by rw [List.take_take]; congr 1; omega
              have h3 : ((rs.map (·.w) ++ ms.map (·.w)).take (u + 1)).Nodup := by rw [← e2]; exact hnd.sublist (List.take_sublist _ _)
              rw [e1, List.nodup_append] at h3
              exact h3.2.2 y hy y (List.mem_singleton.mpr rfl) rfl
            rcases Nat.lt_trichotomy i' i with q | q | q
            · exact absurd hn (key i' i z' q hi' hm')
            · exact q
            · exact absurd hn' (key i i' z q hi hm)
          subst ei
          rw [List.length_map] at e
          exact kE d H' ((s1.trans s2).trans s3) e
        · have hil : i < (rs.map (·.w) ++ ms.map (·.w)).length := (List.getElem?_eq_some_iff.mp hi).1
          have e1 : (rs.map (·.w) ++ ms.map (·.w)).take (i + 1) = (rs.map (·.w) ++ ms.map (·.w)).take i ++ [z] := by rw [List.take_add_one, hi]; rfl
          have h3 : ((rs.map (·.w) ++ ms.map (·.w)).take (i + 1)).Nodup := hnd.sublist (List.take_sublist _ _)
          rw [e1, List.nodup_append] at h3
          exact absurd rfl (h3.2.2 z hm z (List.mem_singleton.mpr rfl))
      | @endless rs ms g gl gm ml hn i hi h1 =>
        refine r_ck_ok hA (.inl ⟨rfl, srows_good g⟩) (by rw [List.length_map]; omega) (by decide) rep_none fun H1 s1 => ?_
        walk_at "rd"
        refine r_ck_ok (hC.same s1) (.inr ⟨rfl, mrows_good gm⟩) (by rw [List.length_map]; omega) (by decide) rep_none fun H2 s2 => ?_
        walk_at "rd"
        refine ⟨a, c, rs.map (·.w), ms.map (·.w), rfl, words_s (hA.same (s1.trans s2)), words_m (hC.same (s1.trans s2)), by rw [List.length_map, List.length_map]; omega, fun i' z' hi' hn' hm' d H' s3 e => ?_, fun hnd H3 s3 => ?_⟩
        · have e1 : (rs.map (·.w) ++ ms.map (·.w)).take (i' + 1) = (rs.map (·.w) ++ ms.map (·.w)).take i' ++ [z'] := by rw [List.take_add_one, hi']; rfl
          have h3 : ((rs.map (·.w) ++ ms.map (·.w)).take (i' + 1)).Nodup := hn.sublist (List.take_sublist _ _)
          rw [e1, List.nodup_append] at h3
          exact absurd rfl (h3.2.2 z' hm' z' (List.mem_singleton.mpr rfl))
        · walk_at "rd"
          refine ⟨c, ms.map (·.c), rfl, counts_m (hC.same ((s1.trans s2).trans s3)), fun i' hi' h1' d H' s4 e => ?_, fun hle => ?_⟩
          · have ei : i' = i := by
              rcases Nat.lt_trichotomy i' i with q | q | q
              · have := none_two hi' h1' q
                omega
              · exact q
              · have := none_two hi h1 q
                omega
            subst ei
            exact kE d H' (((s1.trans s2).trans s3).trans s4) e
          · exact absurd hle (none_all hi h1)
    · refine r_ck_ok hA (.inl ⟨rfl, srows_good hg.s⟩) (by rw [List.length_map]; have := hg.sl; omega) (by decide) rep_none fun H1 s1 => ?_
      walk_at "rd"
      refine r_ck_ok (hC.same s1) (.inr ⟨rfl, mrows_good hg.m⟩) (by rw [List.length_map]; have := hg.ml; omega) (by decide) rep_none fun H2 s2 => ?_
      walk_at "rd"
      refine ⟨a, c, rs.map (·.w), ms.map (·.w), rfl, words_s (hA.same (s1.trans s2)), words_m (hC.same (s1.trans s2)), by rw [List.length_map, List.length_map]; have := hg.sl; have := hg.ml; omega, fun i' z' hi' hn' hm' d H' s3 e => ?_, fun hnd H3 s3 => ?_⟩
      · have e1 : (rs.map (·.w) ++ ms.map (·.w)).take (i' + 1) = (rs.map (·.w) ++ ms.map (·.w)).take i' ++ [z'] := by rw [List.take_add_one, hi']; rfl
        have h3 : ((rs.map (·.w) ++ ms.map (·.w)).take (i' + 1)).Nodup := hg.nd.sublist (List.take_sublist _ _)
        rw [e1, List.nodup_append] at h3
        exact absurd rfl (h3.2.2 z' hm' z' (List.mem_singleton.mpr rfl))
      · walk_at "rd"
        refine ⟨c, ms.map (·.c), rfl, counts_m (hC.same ((s1.trans s2).trans s3)), fun i' hi' h1' d H' s4 e => ?_, fun hle H4 s4' => ?_⟩
        · exact absurd (by rw [none_count]; exact hg.one) (none_all hi' h1')
        · have s4 : Same H H4 := ((s1.trans s2).trans s3).trans s4'
          have copy : ∀ (i : Nat) (y : Addr) (ds : List (List V)) (H5 : Hp) (Q' : VK), [some (V.ref x), some (.ref a), some (.ref c), none, none, none][i]? = some (some (.ref y)) → RowsIn H5 y ds → ds.length ≤ 100 →
              (∀ s xs H6, Same H5 H6 → H5 s = none → H6 s = some (.tup xs) → TupsAt H6 xs ds → Q' (.ref s) H6) →
              tCB (rTupS K) (tCons (tLc (iSeq K (tVar i)) (gName 3) tYes (tCB (rTupS K) (tCons (tVar 3) tNil)) (List.map (fun x => x.snd) [(Str.ofString "row", 3)])) tNil) [some (V.ref x), some (.ref a), some (.ref c), none, none, none] H5 Q' := by
            intro i y ds H5 Q' hi hR hdl kk
            obtain ⟨xs, hxs, hxl, hrow⟩ := hR
            walk_at "rd"
            refine ⟨_, hi, ?_⟩
            refine R.lc_seq hxs (fun D j H' => Same H5 H' ∧ ∃ acc, H' D = some (.lst acc) ∧ TupsAt H' acc (ds.take j)) (fun D hD => ⟨same_new (Same.refl _) hD, [], upd_same, .nil⟩) (fun D j H' _ hp => fun o h => hp.1 _ _ h) ?_ ?_
            · rintro D j v H' hD hj ⟨s5, acc, hacc, hts⟩
              have hjd : j < ds.length := by have := (List.getElem?_eq_some_iff.mp hj).1; omega
              have hdj : ds[j]? = some ds[j] := List.getElem?_eq_getElem hjd
              obtain ⟨b, hb, hbd⟩ := hrow j _ hdj
              rw [hb] at hj
              cases hj
              have hb5 := hbd.same s5
              have et : ds.take (j + 1) = ds.take j ++ [ds[j]] := by rw [List.take_add_one, hdj]; rfl
              have hal : acc.length < 1000 := by have := hts.len; rw [List.length_take] at this; omega
              refine R.gname ⟨rfl, ?_⟩
              walk_at "rd"
              refine R.tupA hb5 (fun l hl => ?_) (fun hbt => ?_)
              · have Dl : D ≠ l := ne_of_none hacc hl
                have hts2 : TupsAt (upd H' l (.tup ds[j])) acc (ds.take j) := hts.keep (keep_new hl)
                have hDl : upd H' l (.tup ds[j]) D = some (.lst acc) := by rw [upd_ne Dl]; exact hacc
                refine ⟨acc, hDl, small1000 (by omega), same_put (same_new s5 hl) hD, _, upd_same, ?_⟩
                rw [et]
                exact (hts2.keep (keep_list hDl)).snoc (keep_list hDl _ _ upd_same)
              · refine ⟨acc, hacc, small1000 (by omega), same_put s5 hD, _, upd_same, ?_⟩
                rw [et]
                exact (hts.keep (keep_list hacc)).snoc (keep_list hacc _ _ hbt)
            · rintro D H' hD ⟨s5, acc, hacc, hts⟩
              rw [hxl, List.take_of_length_le (Nat.le_refl _)] at hts
              walk_at "rd"
              refine R.tupL hacc fun l hl => ?_
              exact kk l acc _ (same_new s5 hl) (s5.free hl) upd_same (hts.keep (keep_new hl))
          walk_at "r1"
          walk_at "r1"
          dsimp only [List.map_nil]
          refine copy 1 a _ H4 _ rfl (hA.same s4) (by rw [List.length_map]; have := hg.sl; omega) fun s xs H5 s5 hs0 hs hts => ?_
          walk_at "rd"
          refine R.sfldE (s5 _ _ (s4 _ _ hx)) TS.cl TS.nS (by decide) ?_
          have hx5 := s5 _ _ (s4 _ _ hx)
          have sx : s ≠ x := ne_of hs hx5 (by intro z; cases z)
          have hx6 : upd H5 x (.ins S dx (putF "simple" (.ref s) [])) x = some (.ins S dx [("simple", .ref s)]) := upd_same
          have hs6 : upd H5 x (.ins S dx (putF "simple" (.ref s) [])) s = some (.tup xs) := by rw [upd_ne sx]; exact hs
          have hts6 : TupsAt (upd H5 x (.ins S dx (putF "simple" (.ref s) []))) xs (rs.map srV) := hts.keep (keep_ins hx5)
          have hC6 : RowsIn (upd H5 x (.ins S dx (putF "simple" (.ref s) []))) c (ms.map mrV) := (hC.same (s4.trans s5)).putI hx5
          have b6 : SameBut x H (upd H5 x (.ins S dx (putF "simple" (.ref s) []))) := (SameBut.of (s4.trans s5)).put
          generalize upd H5 x (.ins S dx (putF "simple" (.ref s) [])) = H6 at hx6 hs6 hts6 hC6 b6
          walk_at "r1"
          walk_at "r1"
          dsimp only [List.map_nil]
          refine copy 2 c _ H6 _ rfl hC6 (by rw [List.length_map]; have := hg.ml; omega) fun m ys H7 s7 hm0 hm hts7 => ?_
          have hx7 := s7 _ _ hx6
          have mx : m ≠ x := ne_of hm hx7 (by intro z; cases z)
          walk_at "rd"
          refine R.sfldE hx7 TS.cl TS.nM (by show 1 < 1000; decide) ?_
          rw [pf2]
          have hx8 : upd H7 x (.ins S dx [("simple", .ref s), ("multipliers", .ref m)]) x = some (.ins S dx [("simple", .ref s), ("multipliers", .ref m)]) := upd_same
          have hs8 : upd H7 x (.ins S dx [("simple", .ref s), ("multipliers", .ref m)]) s = some (.tup xs) := by rw [upd_ne sx]; exact s7 _ _ hs6
          have hm8 : upd H7 x (.ins S dx [("simple", .ref s), ("multipliers", .ref m)]) m = some (.tup ys) := by rw [upd_ne mx]; exact hm
          have ts8 : TupsAt (upd H7 x (.ins S dx [("simple", .ref s), ("multipliers", .ref m)])) xs (rs.map srV) := (hts6.keep fun a d h => s7 _ _ h).keep (keep_ins hx7)
          have tm8 : TupsAt (upd H7 x (.ins S dx [("simple", .ref s), ("multipliers", .ref m)])) ys (ms.map mrV) := hts7.keep (keep_ins hx7)
          have b8 : SameBut x H (upd H7 x (.ins S dx [("simple", .ref s), ("multipliers", .ref m)])) := (b6.trans (SameBut.of s7)).put
          generalize upd H7 x (.ins S dx [("simple", .ref s), ("multipliers", .ref m)]) = H8 at hx8 hs8 hm8 ts8 tm8 b8
          walk_at "rd"
          refine R.fldE hx8 TS.cl TS.nS rfl ?_
          walk_at "rd"
          intro D hD
          refine dc_tup (xs := xs) (fun i H' => Same H8 H' ∧ H' D = some (.dK ((rs.take i).map fun r => ((Sum.inr r.w : Key), V.int r.v)))) ⟨same_new (Same.refl _) hD, upd_same⟩ (fun i H' _ hp => SqT.of (hp.1 _ _ hs8)) ?_ ?_
          · rintro i v H' hi ⟨s9, hD9⟩
            have hxl : xs.length = rs.length := by have := ts8.len; rwa [List.length_map] at this
            have hir : i < rs.length := by have := (List.getElem?_eq_some_iff.mp hi).1; omega
            have hri : rs[i]? = some rs[i] := List.getElem?_eq_getElem hir
            obtain ⟨b, hb, hbt⟩ := ts8.get i (srV rs[i]) (by rw [List.getElem?_map, hri]; rfl)
            rw [hb] at hi
            cases hi
            have hb9 := s9 _ _ hbt
            refine R.gtup (xs := srV rs[i]) (SqT.of hb9) rfl ?_
            refine R.gcons ?_
            refine R.gname ?_
            refine R.gcons ?_
            refine R.gname ?_
            refine R.gnil ⟨rfl, ?_⟩
            walk_at "rd"
            have et : rs.take (i + 1) = rs.take i ++ [rs[i]] := by rw [List.take_add_one, hri]; rfl
            have nb : (Sum.inr rs[i].w : Key) ∉ (rs.take i).map fun r => (Sum.inr r.w : Key) := fun hm' => by
              obtain ⟨r', hr', er⟩ := List.mem_map.mp hm'
              have hnd2 : (rs.map (·.w)).Nodup := (List.nodup_append.mp hg.nd).1
              exact not_before hnd2 hri (List.mem_map.mpr ⟨r', hr', Sum.inr.inj er⟩)
            refine ⟨_, Sum.inr rs[i].w, rfl, hD9, small1000 (by rw [List.length_map, List.length_take]; have := hg.sl; omega), same_put s9 hD, ?_⟩
            rw [upd_same, et, put_next (fun r : SR => ((Sum.inr r.w : Key), V.int r.v)) (rs.take i) rs[i] nb]
          · rintro H9 ⟨s9, hD9⟩
            have hxl : xs.length = rs.length := by have := ts8.len; rwa [List.length_map] at this
            rw [hxl, List.take_of_length_le (Nat.le_refl _)] at hD9
            have hx9 := s9 _ _ hx8
            have Dx : D ≠ x := ne_of hD9 hx9 (by intro z; cases z)
            walk_at "rd"
            refine R.sfldE hx9 TS.cl TS.nV (by show 2 < 1000; decide) ?_
            rw [pf3]
            have hx10 : upd H9 x (.ins S dx [("simple", .ref s), ("multipliers", .ref m), ("_values", .ref D)]) x = some (.ins S dx [("simple", .ref s), ("multipliers", .ref m), ("_values", .ref D)]) := upd_same
            have hs10 : upd H9 x (.ins S dx [("simple", .ref s), ("multipliers", .ref m), ("_values", .ref D)]) s = some (.tup xs) := by rw [upd_ne sx]; exact s9 _ _ hs8
            have hm10 : upd H9 x (.ins S dx [("simple", .ref s), ("multipliers", .ref m), ("_values", .ref D)]) m = some (.tup ys) := by rw [upd_ne mx]; exact s9 _ _ hm8
            have hD10 : upd H9 x (.ins S dx [("simple", .ref s), ("multipliers", .ref m), ("_values", .ref D)]) D = some (.dK (rs.map fun r => ((Sum.inr r.w : Key), V.int r.v))) := by rw [upd_ne Dx]; exact hD9
            have ts10 : TupsAt (upd H9 x (.ins S dx [("simple", .ref s), ("multipliers", .ref m), ("_values", .ref D)])) xs (rs.map srV) := (ts8.keep fun a d h => s9 _ _ h).keep (keep_ins hx9)
            have tm10 : TupsAt (upd H9 x (.ins S dx [("simple", .ref s), ("multipliers", .ref m), ("_values", .ref D)])) ys (ms.map mrV) := (tm8.keep fun a d h => s9 _ _ h).keep (keep_ins hx9)
            have b10 : SameBut x H (upd H9 x (.ins S dx [("simple", .ref s), ("multipliers", .ref m), ("_values", .ref D)])) := (b8.trans (SameBut.of s9)).put
            generalize upd H9 x (.ins S dx [("simple", .ref s), ("multipliers", .ref m), ("_values", .ref D)]) = H10 at hx10 hs10 hm10 hD10 ts10 tm10 b10
            have hyl : ys.length = ms.length := by have := tm10.len; rwa [List.length_map] at this
            walk_at "rd"
            refine R.fldE hx10 TS.cl TS.nM rfl ?_
            walk_at "rd"
            intro D2 hD2
            refine dc_tup (xs := ys) (fun i H' => Same H10 H' ∧ H' D2 = some (.dK ((((ms.map (·.w)).zip ys).take i).map fun q => ((Sum.inr q.1 : Key), q.2)))) ⟨same_new (Same.refl _) hD2, upd_same⟩ (fun i H' _ hp => SqT.of (hp.1 _ _ hm10)) ?_ ?_
            · rintro i v H' hi ⟨s11, hD11⟩
              have hir : i < ms.length := by have := (List.getElem?_eq_some_iff.mp hi).1; omega
              have hri : ms[i]? = some ms[i] := List.getElem?_eq_getElem hir
              obtain ⟨b, hb, hbt⟩ := tm10.get i (mrV ms[i]) (by rw [List.getElem?_map, hri]; rfl)
              have hi0 := hi
              rw [hb] at hi
              cases hi
              have hb11 := s11 _ _ hbt
              have hz : ((ms.map (·.w)).zip ys)[i]? = some (ms[i].w, V.ref b) := List.getElem?_zip_eq_some.mpr ⟨by rw [List.getElem?_map, hri]; rfl, hi0⟩
              refine R.gname ⟨rfl, ?_⟩
              walk_at "rd"
              have et : ((ms.map (·.w)).zip ys).take (i + 1) = ((ms.map (·.w)).zip ys).take i ++ [(ms[i].w, V.ref b)] := by rw [List.take_add_one, hz]; rfl
              have hnd2 : (((ms.map (·.w)).zip ys).map Prod.fst).Nodup := by
                rw [List.map_fst_zip (by rw [List.length_map]; omega)]
                exact (List.nodup_append.mp hg.nd).2.1
              have nb : (Sum.inr ms[i].w : Key) ∉ (((ms.map (·.w)).zip ys).take i).map fun q => (Sum.inr q.1 : Key) := fun hm' => by
                obtain ⟨r', hr', er⟩ := List.mem_map.mp hm'
                exact not_before hnd2 hz (List.mem_map.mpr ⟨r', hr', Sum.inr.inj er⟩)
              refine ⟨_, Sum.inr ms[i].w, rfl, hD11, small1000 (by rw [List.length_map, List.length_take]; have := hg.ml; omega), same_put s11 hD2, ?_⟩
              rw [upd_same, et, put_next (fun q : Str × V => ((Sum.inr q.1 : Key), q.2)) _ (ms[i].w, V.ref b) nb]
            · rintro H11 ⟨s11, hD11⟩
              have hzl : ((ms.map (·.w)).zip ys).length = ys.length := by rw [List.length_zip, List.length_map]; omega
              rw [← hzl, List.take_of_length_le (Nat.le_refl _)] at hD11
              have hx11 := s11 _ _ hx10
              have D2x : D2 ≠ x := ne_of hD11 hx11 (by intro z; cases z)
              have DxD : D ≠ x := ne_of (s11 _ _ hD10) hx11 (by intro z; cases z)
              walk_at "rd"
              refine R.sfldE hx11 TS.cl TS.nR (by show 3 < 1000; decide) ?_
              rw [pf4]
              refine kQ _ (b10.trans (SameBut.of s11)).put ⟨dx, s, m, D, D2, xs, ys, upd_same, ?_, ?_, ?_, ?_, ?_, ?_⟩
              · rw [upd_ne sx]; exact s11 _ _ hs10
              · exact (ts10.keep fun a d h => s11 _ _ h).keep (keep_ins hx11)
              · rw [upd_ne mx]; exact s11 _ _ hm10
              · exact (tm10.keep fun a d h => s11 _ _ h).keep (keep_ins hx11)
              · rw [upd_ne DxD]; exact s11 _ _ hD10
              · rw [upd_ne D2x]; exact hD11
end
end KN
end
section
set_option Elab.async false
set_option linter.all false
set_option maxRecDepth 100000
set_option maxHeartbeats 4000000
set_option pp.maxSteps 1500
set_option pp.deepTerms false
local macro_rules | `(tactic| walk_at "ne") => `(tactic| first
  | assumption | (apply Ne.symm; assumption)
  | exact R.ne_new (by assumption) | exact (R.ne_new (by assumption)).symm
  | exact L2.ne_of_none (by assumption) (by assumption) | exact (L2.ne_of_none (by assumption) (by assumption)).symm
  | exact L2.ne_of_none (by assumption) (R.free_new (by assumption)) | exact (L2.ne_of_none (by assumption) (R.free_new (by assumption))).symm)
local macro_rules | `(tactic| walk_at "at") => `(tactic| first
  | assumption | exact L2.upd_same
  | (refine R.sb (H := ?H) (p := ?p) ?e ?n ?h; (case e => assumption); (case n => walk_at "ne"); (case h => walk_at "at"))
  | (refine R.sm (H := ?H) ?e ?h; (case e => assumption); (case h => walk_at "at"))
  | (refine Eq.trans (L2.upd_ne ?_) ?_ <;> first | walk_at "ne" | walk_at "at"))
local macro_rules | `(tactic| walk_at "sqt") => `(tactic| first | assumption | (refine L2.SqT.of ?_; walk_at "at"))
local macro_rules | `(tactic| walk_at "ty") => `(tactic| first | exact R.tyN | exact R.tyB | exact R.tyI | exact R.tyS | (refine R.tyT (xs := ?xs) ?h; case h => walk_at "at") | (refine R.tyL (xs := ?xs) ?h; case h => walk_at "at"))
local macro_rules | `(tactic| walk_at "kit") => `(tactic| first | exact R.kit_NoneType_tuple | exact R.kit_NoneType_list | exact R.kit_NoneType_bool | exact R.kit_NoneType_str | exact R.kit_NoneType_int | exact R.kit_bool_tuple | exact R.kit_bool_list | exact R.kit_bool_bool | exact R.kit_bool_str | exact R.kit_bool_int | exact R.kit_int_tuple | exact R.kit_int_list | exact R.kit_int_bool | exact R.kit_int_str | exact R.kit_int_int | exact R.kit_str_tuple | exact R.kit_str_list | exact R.kit_str_bool | exact R.kit_str_str | exact R.kit_str_int | exact R.kit_tuple_tuple | exact R.kit_tuple_list | exact R.kit_tuple_bool | exact R.kit_tuple_str | exact R.kit_tuple_int | exact R.kit_list_tuple | exact R.kit_list_list | exact R.kit_list_bool | exact R.kit_list_str | exact R.kit_list_int)
local macro_rules | `(tactic| walk_at "sz") => `(tactic| first | assumption | (refine Nat.le_trans ?_ (show 1000 ≤ PySem.sizeLine by decide); omega) | decide)
local macro_rules | `(tactic| walk_at "szl") => `(tactic| first | assumption | exact Nat.le_of_lt (L2.small1000 (by omega)) | decide | decide +kernel)
local macro_rules | `(tactic| walk_at "sqa") => `(tactic| first | assumption | exact R.SeqA.same (by assumption) (by assumption) | exact R.SeqA.new (by assumption) (by assumption) | (exact Or.inl (by walk_at "at")) | (exact Or.inr (by walk_at "at")))
local macro_rules | `(tactic| walk_at "ix") => `(tactic| first | rfl | (exact L2.atI_nat (by assumption)) | assumption)
local macro_rules | `(tactic| walk_at "cond") => `(tactic| first
  | exact Or.inl (by decide) | exact Or.inr (by decide) | exact Or.inl ⟨by omega, by omega⟩ | exact Or.inr ⟨by omega, by omega⟩
  | (constructor <;> omega) | (show _ ≠ _; omega) | decide | omega)
local macro_rules | `(tactic| walk_at "r1") => `(tactic| first
  | with_reducible refine R.seq ?_ | with_reducible refine R.asg ?_ | with_reducible refine R.ifs ?_ | with_reducible refine R.ret ?_ | with_reducible refine R.retN ?_ | with_reducible refine R.drop ?_ | with_reducible refine R.next ?_
  | with_reducible refine R.op ?_ | ((with_reducible refine R.var (v := ?v) ?h ?q); case h => rfl) | with_reducible refine R.c ?_ | with_reducible refine R.tst ?_ | with_reducible refine R.tb_ ?_ | with_reducible refine R.ex ?_
  | with_reducible refine R.i0 ?_ | with_reducible refine R.eqI ?_ | with_reducible refine R.neI ?_ | ((with_reducible refine R.ic ?_ ?_); · walk_at "cond") | with_reducible refine R.u0 ?_ | with_reducible refine R.un ?_
  | ((with_reducible refine R.eq ?_ ?_); · rfl) | ((with_reducible refine R.ne ?_ ?_); · rfl)
  | with_reducible refine R.and_ ?_ | with_reducible refine R.or_ ?_ | with_reducible refine R.not_ ?_ | with_reducible refine R.ife ?_ | with_reducible refine R.chain ?_
  | with_reducible refine R.cons ?_ | with_reducible refine R.nil ?_ | with_reducible refine R.call ?_ | with_reducible refine R.cb ?_ | with_reducible refine R.bm ?_
  | with_reducible refine R.gname ?_ | with_reducible refine R.gsub ?_ | with_reducible refine R.gnil ?_ | with_reducible refine R.gcons ?_ | with_reducible refine R.yes ?_
  | with_reducible refine R.int1 ?_ | ((with_reducible refine R.lenL (xs := ?xs) ?h ?q); case h => walk_at "at")
  | ((with_reducible refine R.ixL (xs := ?xs) (v := ?v) ?h ?e ?q); (case h => walk_at "at"); (case e => walk_at "ix"))
  | ((with_reducible refine R.setL (xs := ?xs) (n := ?n) ?h ?e ?q); (case h => walk_at "at"); (case e => rfl))
  | ((with_reducible refine R.append (xs := ?xs) ?h ?e ?q); (case h => walk_at "at"); (case e => walk_at "cond"))
  | with_reducible refine R.is_ ?_ | with_reducible refine R.isnot ?_ | with_reducible refine R.andV ?_ | with_reducible refine R.orV ?_ | with_reducible refine R.notV ?_
  | ((with_reducible refine R.isi (s := ?s) (b := ?b) ?ty ?h ?q); (case ty => walk_at "ty"); (case h => walk_at "kit"))
  | ((with_reducible refine R.addS ?h ?q); (case h => walk_at "sz")) | with_reducible refine R.max2 ?_ | with_reducible refine R.min2 ?_
  | ((with_reducible refine R.lenStr ?h ?q); (case h => walk_at "szl")) | ((with_reducible refine R.ixS (n := ?n) ?h ?e ?q); (case h => walk_at "szl"); (case e => walk_at "ix"))
  | ((with_reducible refine R.tyl (xs := ?xs) ?h ?q); (case h => walk_at "at")) | with_reducible refine R.itlist ?_ | with_reducible refine R.ittup ?_ | with_reducible refine R.m1 ?_ | with_reducible refine R.m1s ?_ | with_reducible refine R.leS ?_ | with_reducible refine R.itstr ?_ | with_reducible refine R.itstrE ?_ | with_reducible refine R.lc ?_ | with_reducible refine R.for_ ?_ | ((with_reducible refine R.all_ (bs := ?bs) ?h ?q); (case h => walk_at "at"))
  | with_reducible refine R.rng1 ?_ | ((with_reducible refine R.rngE ?h ?q); (case h => (constructor <;> omega)))
  | ((with_reducible refine R.lenT (xs := ?xs) ?h ?q); (case h => walk_at "sqt")) | ((with_reducible refine R.ixT (xs := ?xs) (v := ?v) ?h ?e ?q); (case h => walk_at "sqt"); (case e => walk_at "ix"))
  | ((refine R.itlE (xs := ?xs) ?h ?q); (case h => walk_at "at")) | ((refine R.ittE (xs := ?xs) ?h ?q); (case h => walk_at "at"))
  | ((refine R.gseq (xs := ?xs) ?h ?e ?q); (case h => walk_at "sqa"); (case e => rfl)) | ((refine R.ixA (xs := ?xs) (v := ?v) ?h ?e ?q); (case h => walk_at "sqa"); (case e => walk_at "ix")) | ((refine R.lenA (xs := ?xs) ?h ?q); (case h => walk_at "sqa"))
  | ((with_reducible refine R.gtup (xs := ?xs) ?h ?e ?q); (case h => walk_at "sqt"); (case e => rfl))
  | with_reducible refine R.din_ ?_ | with_reducible refine R.dput_ ?_
  | with_reducible refine R.sfld ?_ | with_reducible refine R.fld_ ?_ | with_reducible refine R.dc ?_
  | with_reducible refine R.dget1_ ?_
  | with_reducible refine R.itseq ?_ | with_reducible refine R.itenum ?_
  | with_reducible refine R.itT ?_ | with_reducible refine R.itF ?_ | with_reducible refine R.itNT ?_ | with_reducible refine R.itNF ?_
  | (with_reducible refine R.tup ?_) | (with_reducible refine R.lst ?_))
local macro_rules | `(tactic| walk_at "rd") => `(tactic| (repeat (first | walk_at "r1" | (dsimp only [Int.reduceToNat, List.set_cons_succ, List.set_cons_zero, List.length_cons, List.length_nil, List.nil_append, List.cons_append, List.append_nil]))))
local macro_rules | `(tactic| walk_at "go") => `(tactic| (rw [R.start_eq]; dsimp only [R.startE, List.map_nil]; walk_at "rd"))
namespace KN
open PySem L2 SX R
open C8 (Cal Def cal0 pe_c pe_gc fnScope fnBody Met met0)
section
variable {P : Program} {w : World} {K : PySem.W.Frag} {mg : Str → Option Value} {base : Heap}
abbrev sSysW : Stmt := inClass (top 15) 1
theorem scSysW : FnScope ["self", "row"] ["self"] (fnScope sSysW) := ⟨rfl, rfl, rfl, by decide +kernel, rfl, by decide +kernel, by decide +kernel⟩
abbrev sSysV : Stmt := inClass (top 15) 2
theorem scSysV : FnScope ["self", "word"] ["self", "word"] (fnScope sSysV) := ⟨rfl, rfl, rfl, by decide +kernel, rfl, by decide +kernel, by decide +kernel⟩
abbrev sSysM : Stmt := inClass (top 15) 3
theorem scSysM : FnScope ["self", "word"] ["self", "word"] (fnScope sSysM) := ⟨rfl, rfl, rfl, by decide +kernel, rfl, by decide +kernel, by decide +kernel⟩
abbrev sSysE : Stmt := inClass (top 15) 4
theorem scSysE : FnScope ["self", "row"] ["self"] (fnScope sSysE) := ⟨rfl, rfl, rfl, by decide +kernel, rfl, by decide +kernel, by decide +kernel⟩
abbrev sSysB : Stmt := inClass (top 15) 5
theorem scSysB : FnScope ["self", "greatest", "_", "value", "count", "rest"] ["self"] (fnScope sSysB) := ⟨rfl, rfl, rfl, by decide +kernel, rfl, by decide +kernel, by decide +kernel⟩
def spWords (S : Addr) : Sp := fun vs H Q _ => ∃ (x : Addr) (rs : List SR) (ms : List MR), vs = [.ref x] ∧ SysAt S H x rs ms ∧ rs.length + ms.length ≤ 100 ∧ ∀ t H', Same H H' → H' t = some (.tup ((rs.map (·.w) ++ ms.map (·.w)).map V.str)) → Q (.ref t) H'
theorem m_words (Z : Zs mg) {S : Addr} (TS : SysK K S) {f : Addr} {fd : FuncData} (me : Meth K S "words" f) (F : C8.Fun K "words" "System.words" sSysW f fd) (b : Binds K fd ["self"] []) : Met P w K mg base 1 S "words" (spWords S) [] := by
  refine met0 TS.cl me F b scSysW (fun vs H Q E h => ?_) (fun cdv A outer s H vs Q E hr h => ?_)
  · obtain ⟨x, rs, ms, rfl, _⟩ := h
    rfl
  · obtain ⟨x, rs, ms, rfl, ⟨dx, s, m, v, r, xs, ys, hx, hs, hts, hm, htm, hv, hrr⟩, hl, k⟩ := h
    refine ⟨_, pss_one (ps_ret (pe_callTy (kTuple K) (by rfl) Z.tuple (by decide +kernel) (pa_cons (pe_lc (own := [("row", 1)]) (g := gName 1) (tt := tYes) rfl scSysW.nd (kiT K (pe_op (kCatT K) (kFld K (pv 0)) (kFld K (pv 0)))) (blkOk_by (own := [("row", 1)]) (N := ["self", "row"]) (sc := fnScope sSysW) (by decide +kernel)) (fun _ _ _ _ _ => (pg_name (i := 1) scSysW.nd rfl (Or.inl rfl))) (fun _ _ _ _ _ => pts_nil) (fun _ _ _ _ _ => pe_ix (kIxT K) (pv 1) pe_int (fun _ _ => rfl))) pa_nil))), ?_⟩
    have lx : xs.length = rs.length := by have := hts.len; rwa [List.length_map] at this
    have ly : ys.length = ms.length := by have := htm.len; rwa [List.length_map] at this
    walk_at "go"
    refine R.fldE hx TS.cl TS.nS rfl ?_
    walk_at "rd"
    refine R.fldE hx TS.cl TS.nM rfl ?_
    refine R.catA (SqT.of hs) (SqT.of hm) (Nat.le_of_lt (small1000 (by omega))) fun p H1 s1 hp => ?_
    have items : ∀ i, i < rs.length + ms.length → ∃ b z d, (xs ++ ys)[i]? = some (.ref b) ∧ H b = some (.tup (.str z :: d)) ∧ (rs.map (·.w) ++ ms.map (·.w))[i]? = some z := by
      intro i hi
      by_cases h : i < rs.length
      · have hri : rs[i]? = some rs[i] := List.getElem?_eq_getElem h
        obtain ⟨b, hb, hbt⟩ := hts.get i (srV rs[i]) (by rw [List.getElem?_map, hri]; rfl)
        exact ⟨b, rs[i].w, _, by rw [List.getElem?_append_left (by omega)]; exact hb, hbt, by rw [List.getElem?_append_left (by rw [List.length_map]; exact h), List.getElem?_map, hri]; rfl⟩
      · have hi2 : i - rs.length < ms.length := by omega
        have hri : ms[i - rs.length]? = some ms[i - rs.length] := List.getElem?_eq_getElem hi2
        obtain ⟨b, hb, hbt⟩ := htm.get (i - rs.length) (mrV ms[i - rs.length]) (by rw [List.getElem?_map, hri]; rfl)
        exact ⟨b, ms[i - rs.length].w, _, by rw [List.getElem?_append_right (by omega), lx]; exact hb, hbt, by rw [List.getElem?_append_right (by rw [List.length_map]; omega), List.length_map, List.getElem?_map, hri]; rfl⟩
    refine ⟨p, rfl, ⟨_, hp⟩, fun D hD => ?_⟩
    have hall : (xs ++ ys).length = rs.length + ms.length := by rw [List.length_append]; omega
    refine lc_it (walk_tup (K := K) (a := p) (xs := xs ++ ys)) (fun i H' => Same H1 H' ∧ H' D = some (.lst (((rs.map (·.w) ++ ms.map (·.w)).take i).map V.str))) ⟨same_new (Same.refl _) hD, upd_same⟩ (fun i H' _ hp' => ?_) ?_ ?_
    · rcases hp with (h | ⟨o, h⟩) | h
      · exact .inl (.inl (hp'.1 _ _ h))
      · exact .inl (.inr ⟨o, hp'.1 _ _ h⟩)
      · exact .inr h
    · rintro i u H2 H2' hi ⟨s2, hD2⟩ ⟨rfl, hu⟩
      obtain ⟨b, z, d, hb, hbt, hz⟩ := items i (by omega)
      rw [hb] at hu
      cases hu
      have hb2 := s2 _ _ (s1 _ _ hbt)
      refine R.gname ⟨rfl, ?_⟩
      walk_at "rd"
      refine R.ixT (SqT.of hb2) (atI_nat (j := 0) rfl) ?_
      refine ⟨_, hD2, small1000 (by rw [List.length_map, List.length_take, List.length_append, List.length_map, List.length_map]; omega), same_put s2 hD, ?_⟩
      rw [upd_same, List.take_add_one, hz, List.map_append]
      rfl
    · rintro H2 ⟨s2, hD2⟩
      rw [hall, List.take_of_length_le (by rw [List.length_append, List.length_map, List.length_map]; exact Nat.le_refl _)] at hD2
      walk_at "rd"
      refine R.tupL hD2 fun l hl => ?_
      exact k l _ (same_new (s1.trans s2) hl) upd_same
theorem valV_at {κ : Type} [DecidableEq κ] : ∀ {l : List (κ × V)} {k : κ} {v : V}, (l.map (·.1)).Nodup → (k, v) ∈ l → valV l k = some v
  | [], _, _, _, h => by cases h
  | p :: l, k, v, hn, h => by
    obtain ⟨h1, h2⟩ := List.nodup_cons.mp hn
    rcases List.mem_cons.mp h with q | q
    · subst q; exact valV_pos rfl
    · have : ¬ p.1 = k := fun e => h1 (List.mem_map.mpr ⟨(k, v), q, e.symm⟩)
      rw [valV_neg this]
      exact valV_at h2 q
theorem valV_off {κ : Type} [DecidableEq κ] {l : List (κ × V)} {k : κ} (h : k ∉ l.map (·.1)) : valV l k = none := by
  cases q : valV l k with
  | none => rfl
  | some v => exact absurd (valV_in q) h
def svOf (rs : List SR) (z : Str) : V := (valV (rs.map fun r => ((Sum.inr r.w : Key), V.int r.v)) (Sum.inr z : Key)).getD .non
def spSv (S : Addr) : Sp := fun vs H Q _ => ∃ (x : Addr) (z : Str) (rs : List SR) (ms : List MR), vs = [.ref x, .str z] ∧ SysAt S H x rs ms ∧ Q (svOf rs z) H
theorem m_simple_value {S : Addr} (TS : SysK K S) {f : Addr} {fd : FuncData} (me : Meth K S "simple_value" f) (F : C8.Fun K "simple_value" "System.simple_value" sSysV f fd) (b : Binds K fd ["self", "word"] []) : Met P w K mg base 1 S "simple_value" (spSv S) [] := by
  refine met0 TS.cl me F b scSysV (fun vs H Q E h => ?_) (fun cdv A outer s H vs Q E hr h => ?_)
  · obtain ⟨x, z, rs, ms, rfl, _⟩ := h
    rfl
  · obtain ⟨x, z, rs, ms, rfl, ⟨dx, s, m, v, r, xs, ys, hx, hs, hts, hm, htm, hv, hrr⟩, k⟩ := h
    refine ⟨_, pss_one (ps_ret (pe_dget1 (hu_of hr) (kFld K (pv 0)) (pv 1) ⟨by rfl, by rfl, by rfl, by rfl⟩)), ?_⟩
    walk_at "go"
    refine R.fldE hx TS.cl TS.nV rfl ?_
    refine R.dgetE hv ?_
    walk_at "rd"
    exact R.dgetO hv k
def spMl (S : Addr) : Sp := fun vs H Q _ => ∃ (x : Addr) (z : Str) (rs : List SR) (ms : List MR), vs = [.ref x, .str z] ∧ SysAt S H x rs ms ∧ ms.length ≤ 100 ∧
  ((∃ m : MR, m ∈ ms ∧ m.w = z ∧ (ms.map (·.w)).Nodup ∧ ∀ b, H b = some (.tup (mrV m)) → Q (.ref b) H) ∨ (z ∉ ms.map (·.w) ∧ Q .non H))
theorem m_multiplier {S : Addr} (TS : SysK K S) {f : Addr} {fd : FuncData} (me : Meth K S "multiplier" f) (F : C8.Fun K "multiplier" "System.multiplier" sSysM f fd) (b : Binds K fd ["self", "word"] []) : Met P w K mg base 1 S "multiplier" (spMl S) [] := by
  refine met0 TS.cl me F b scSysM (fun vs H Q E h => ?_) (fun cdv A outer s H vs Q E hr h => ?_)
  · obtain ⟨x, z, rs, ms, rfl, _⟩ := h
    rfl
  · obtain ⟨x, z, rs, ms, rfl, ⟨dx, s, m, v, r, xs, ys, hx, hs, hts, hm, htm, hv, hrr⟩, hl, k⟩ := h
    refine ⟨_, pss_one (ps_ret (pe_dget1 (hu_of hr) (kFld K (pv 0)) (pv 1) ⟨by rfl, by rfl, by rfl, by rfl⟩)), ?_⟩
    have ly : ys.length = ms.length := by have := htm.len; rwa [List.length_map] at this
    walk_at "go"
    refine R.fldE hx TS.cl TS.nR rfl ?_
    refine R.dgetE hrr ?_
    walk_at "rd"
    refine R.dgetO hrr ?_
    have keys : (((ms.map (·.w)).zip ys).map fun q => ((Sum.inr q.1 : Key), q.2)).map (·.1) = (ms.map (·.w)).map fun z => (Sum.inr z : Key) := by
      rw [List.map_map]
      conv => rhs; rw [← List.map_fst_zip (l₁ := ms.map (·.w)) (l₂ := ys) (by rw [List.length_map]; omega)]
      rw [List.map_map]
      rfl
    rcases k with ⟨mm, hmm, rfl, hnd, kk⟩ | ⟨hz, kk⟩
    · obtain ⟨i, hi, hie⟩ := List.mem_iff_getElem.mp hmm
      have hri : ms[i]? = some mm := by rw [List.getElem?_eq_getElem hi, hie]
      obtain ⟨b, hb, hbt⟩ := htm.get i (mrV mm) (by rw [List.getElem?_map, hri]; rfl)
      have hz : ((ms.map (·.w)).zip ys)[i]? = some (mm.w, V.ref b) := List.getElem?_zip_eq_some.mpr ⟨by rw [List.getElem?_map, hri]; rfl, hb⟩
      have e : valV (((ms.map (·.w)).zip ys).map fun q => ((Sum.inr q.1 : Key), q.2)) (Sum.inr mm.w) = some (.ref b) := by
        refine valV_at ?_ (List.mem_map.mpr ⟨_, List.mem_of_getElem? hz, rfl⟩)
        rw [keys]
        rw [List.nodup_iff_pairwise_ne, List.pairwise_map]
        exact List.Pairwise.imp (fun h e => h (Sum.inr.inj e)) (List.nodup_iff_pairwise_ne.mp hnd)
      rw [e]
      exact kk b hbt
    · have e : valV (((ms.map (·.w)).zip ys).map fun q => ((Sum.inr q.1 : Key), q.2)) (Sum.inr z) = none := by
        refine valV_off ?_
        rw [keys]
        intro hm'
        obtain ⟨y, hy, ey⟩ := List.mem_map.mp hm'
        rw [Sum.inr.inj ey] at hy
        exact hz hy
      rw [e]
      exact kk
def spEl (S : Addr) : Sp := fun vs H Q _ => ∃ (x : Addr) (rs : List SR) (ms : List MR), vs = [.ref x] ∧ SysAt S H x rs ms ∧
  ((∃ (i : Nat) (m : MR), ms[i]? = some m ∧ m.c = none ∧ (∀ j m', j < i → ms[j]? = some m' → m'.c ≠ none) ∧ ∀ b, H b = some (.tup (mrV m)) → Q (.ref b) H) ∨ ((∀ m ∈ ms, m.c ≠ none) ∧ Q .non H))
theorem m_endless {S : Addr} (TS : SysK K S) {f : Addr} {fd : FuncData} (me : Meth K S "endless" f) (F : C8.Fun K "endless" "System.endless" sSysE f fd) (b : Binds K fd ["self"] []) : Met P w K mg base 1 S "endless" (spEl S) [] := by
  refine met0 TS.cl me F b scSysE (fun vs H Q E h => ?_) (fun cdv A outer s H vs Q E hr h => ?_)
  · obtain ⟨x, rs, ms, rfl, _⟩ := h
    rfl
  · obtain ⟨x, rs, ms, rfl, ⟨dx, s, m, v, r, xs, ys, hx, hs, hts, hm, htm, hv, hrr⟩, k⟩ := h
    refine ⟨_, pss_cons (ps_for PassesOwn.never rfl (kiT K (kFld K (pv 0))) (pg_name (i := 1) scSysE.nd rfl (Or.inl rfl))
        (pss_one (ps_if (pt_cmpR oIs (pe_ix (kIxT K) (pv 1) pe_int (fun _ _ => rfl)) pe_non (nomark _))
        (pss_one (ps_ret (pv 1)))
        (pss_nil))))
      (pss_one (ps_ret pe_non)), ?_⟩
    have ly : ys.length = ms.length := by have := htm.len; rwa [List.length_map] at this
    walk_at "go"
    refine R.fldE hx TS.cl TS.nM rfl ?_
    walk_at "rd"
    refine for_it (walk_tup (K := K) (a := m) (xs := ys)) (fun i σ' H' => ∃ q, σ' = [some (.ref x), q] ∧ H' = H ∧ ∀ j m', j < i → ms[j]? = some m' → m'.c ≠ none) ⟨none, rfl, rfl, fun j m' h => absurd h (Nat.not_lt_zero _)⟩ (fun i σ' H' _ hp => by obtain ⟨_, _, rfl, _⟩ := hp; exact SqT.of hm) ?_ ?_
    · rintro i u σ' H2 H2' hi ⟨q, rfl, rfl, hno⟩ ⟨rfl, hu⟩
      have hri : ms[i]? = some ms[i] := List.getElem?_eq_getElem (by omega)
      obtain ⟨b, hb, hbt⟩ := htm.get i (mrV ms[i]) (by rw [List.getElem?_map, hri]; rfl)
      rw [hb] at hu
      cases hu
      walk_at "rd"
      refine it (fun h1 => ?_) (fun h1 => ?_)
      · have hn : ms[i].c = none := by
          cases z : ms[i].c with
          | none => rfl
          | some n => rw [z] at h1; exact absurd h1 (fun y => nomatch (show V.int n = V.non from y))
        walk_at "rd"
        rcases k with ⟨i', m', hi', hc', hfirst, kk⟩ | ⟨hall, _⟩
        · have ei : i' = i := by
            rcases Nat.lt_trichotomy i' i with y | y | y
            · exact absurd hc' (hno i' m' y hi')
            · exact y
            · exact absurd hn (hfirst i _ y hri)
          subst ei
          rw [hri] at hi'
          cases hi'
          exact kk b hbt
        · exact absurd hn (hall _ (List.mem_of_getElem? hri))
      · walk_at "rd"
        refine ⟨_, rfl, rfl, fun j m' hj hm' => ?_⟩
        by_cases e : j = i
        · subst e
          rw [hri] at hm'
          cases hm'
          intro hc
          rw [hc] at h1
          exact h1 rfl
        · exact hno j m' (by omega) hm'
    · rintro σ' H2 ⟨q, rfl, rfl, hno⟩
      walk_at "rd"
      rcases k with ⟨i', m', hi', hc', _, _⟩ | ⟨_, kk⟩
      · exact absurd hc' (hno i' m' (by have := (List.getElem?_eq_some_iff.mp hi').1; omega) hi')
      · exact kk
def mx (i j : Int) : Int := if j > i then j else i
def bms : Int → List SR → Int
  | g, [] => g
  | g, r :: rs => bms (mx g r.v) rs
def bmm : Int → List MR → Int
  | g, [] => g
  | g, m :: ms => bmm (match m.c with | none => g | some c => mx g (c * m.v + m.r)) ms
theorem bms_snoc : ∀ (rs : List SR) (g : Int) (r : SR), bms g (rs ++ [r]) = mx (bms g rs) r.v
  | [], g, r => rfl
  | a :: rs, g, r => bms_snoc rs _ r
theorem bmm_snoc : ∀ (ms : List MR) (g : Int) (m : MR), bmm g (ms ++ [m]) = (match m.c with | none => bmm g ms | some c => mx (bmm g ms) (c * m.v + m.r))
  | [], g, r => rfl
  | a :: ms, g, r => bmm_snoc ms _ r
def spBm (S : Addr) : Sp := fun vs H Q _ => ∃ (x : Addr) (rs : List SR) (ms : List MR), vs = [.ref x] ∧ SysAt S H x rs ms ∧ (∀ m ∈ ms, 2 ≤ m.v ∧ m.v ≤ 100000) ∧ Q (.int (bmm (bms 0 rs) ms)) H
theorem m_bounded_maximum (Z : Zs mg) {S : Addr} (TS : SysK K S) {f : Addr} {fd : FuncData} (me : Meth K S "bounded_maximum" f) (F : C8.Fun K "bounded_maximum" "System.bounded_maximum" sSysB f fd) (b : Binds K fd ["self"] []) : Met P w K mg base 1 S "bounded_maximum" (spBm S) [] := by
  refine met0 TS.cl me F b scSysB (fun vs H Q E h => ?_) (fun cdv A outer s H vs Q E hr h => ?_)
  · obtain ⟨x, rs, ms, rfl, _⟩ := h
    rfl
  · obtain ⟨x, rs, ms, rfl, ⟨dx, s, m, v, r, xs, ys, hx, hs, hts, hm, htm, hv, hrr⟩, hb, k⟩ := h
    refine ⟨_, pss_cons (ps_set (i := 1) scSysB.nd rfl (Or.inl rfl) pe_int)
      (pss_cons (ps_for PassesOwn.never rfl (kiT K (kFld K (pv 0))) (kgTup K (n := 2) rfl (pgs_cons (pg_name (i := 2) scSysB.nd rfl (Or.inl rfl)) (pgs_cons (pg_name (i := 3) scSysB.nd rfl (Or.inl rfl)) pgs_nil)))
        (pss_one (ps_set (i := 1) scSysB.nd rfl (Or.inl rfl) (pe_callB kMax2 (by rfl) Z.max (by decide +kernel) (pa_cons (pv 1) (pa_cons (pv 3) pa_nil))))))
      (pss_cons (ps_for PassesOwn.never rfl (kiT K (kFld K (pv 0))) (kgTup K (n := 5) rfl (pgs_cons (pg_name (i := 2) scSysB.nd rfl (Or.inl rfl)) (pgs_cons (pg_name (i := 3) scSysB.nd rfl (Or.inl rfl)) (pgs_cons (pg_name (i := 4) scSysB.nd rfl (Or.inl rfl)) (pgs_cons (pg_name (i := 2) scSysB.nd rfl (Or.inl rfl)) (pgs_cons (pg_name (i := 5) scSysB.nd rfl (Or.inl rfl)) pgs_nil))))))
        (pss_one (ps_if (pt_cmpR oIsNot (pv 4) pe_non (nomark _))
        (pss_one (ps_set (i := 1) scSysB.nd rfl (Or.inl rfl) (pe_callB kMax2 (by rfl) Z.max (by decide +kernel) (pa_cons (pv 1) (pa_cons (pe_op op_add (pe_op op_mul (pv 4) (pv 3)) (pv 5)) pa_nil)))))
        (pss_nil))))
      (pss_one (ps_ret (pv 1))))), ?_⟩
    have lx : xs.length = rs.length := by have := hts.len; rwa [List.length_map] at this
    have ly : ys.length = ms.length := by have := htm.len; rwa [List.length_map] at this
    walk_at "go"
    refine R.fldE hx TS.cl TS.nS rfl ?_
    walk_at "rd"
    refine for_it (walk_tup (K := K) (a := s) (xs := xs)) (fun i σ' H' => ∃ q2 q3, σ' = [some (.ref x), some (.int (bms 0 (rs.take i))), q2, q3, none, none] ∧ H' = H) ⟨none, none, rfl, rfl⟩ (fun i σ' H' _ hp => by obtain ⟨_, _, _, rfl⟩ := hp; exact SqT.of hs) ?_ ?_
    · rintro i u σ' H2 H2' hi ⟨q2, q3, rfl, rfl⟩ ⟨rfl, hu⟩
      have hri : rs[i]? = some rs[i] := List.getElem?_eq_getElem (by omega)
      obtain ⟨b, hb, hbt⟩ := hts.get i (srV rs[i]) (by rw [List.getElem?_map, hri]; rfl)
      rw [hb] at hu
      cases hu
      refine R.gtup (xs := srV rs[i]) (SqT.of hbt) rfl ?_
      refine R.gcons ?_
      refine R.gname ?_
      refine R.gcons ?_
      refine R.gname ?_
      refine R.gnil ?_
      walk_at "rd"
      have er : bms 0 (rs.take (i + 1)) = mx (bms 0 (rs.take i)) rs[i].v := by
        rw [List.take_add_one, hri]
        exact bms_snoc _ _ _
      rw [er]
      exact ⟨_, _, rfl, rfl⟩
    · rintro σ' H2 ⟨q2, q3, rfl, rfl⟩
      rw [lx, List.take_of_length_le (Nat.le_refl _)]
      walk_at "rd"
      refine R.fldE hx TS.cl TS.nM rfl ?_
      walk_at "rd"
      refine for_it (walk_tup (K := K) (a := m) (xs := ys)) (fun i σ' H' => ∃ q2 q3 q4 q5, σ' = [some (.ref x), some (.int (bmm (bms 0 rs) (ms.take i))), q2, q3, q4, q5] ∧ H' = H2) ⟨q2, q3, none, none, rfl, rfl⟩ (fun i σ' H' _ hp => by obtain ⟨_, _, _, _, _, rfl⟩ := hp; exact SqT.of hm) ?_ ?_
      · rintro i u σ' H3 H3' hi ⟨q2, q3, q4, q5, rfl, rfl⟩ ⟨rfl, hu⟩
        have hri : ms[i]? = some ms[i] := List.getElem?_eq_getElem (by omega)
        obtain ⟨b, hb', hbt⟩ := htm.get i (mrV ms[i]) (by rw [List.getElem?_map, hri]; rfl)
        rw [hb'] at hu
        cases hu
        have hbd := hb _ (List.mem_of_getElem? hri)
        have et : bmm (bms 0 rs) (ms.take (i + 1)) = (match ms[i].c with | none => bmm (bms 0 rs) (ms.take i) | some c => mx (bmm (bms 0 rs) (ms.take i)) (c * ms[i].v + ms[i].r)) := by
          rw [List.take_add_one, hri]
          exact bmm_snoc _ _ _
        refine R.gtup (xs := mrV ms[i]) (SqT.of hbt) rfl ?_
        refine R.gcons ?_
        refine R.gname ?_
        refine R.gcons ?_
        refine R.gname ?_
        refine R.gcons ?_
        refine R.gname ?_
        refine R.gcons ?_
        refine R.gname ?_
        refine R.gcons ?_
        refine R.gname ?_
        refine R.gnil ?_
        walk_at "rd"
        cases hc : ms[i].c with
        | none =>
          rw [hc] at et
          refine itn (fun z => absurd rfl z) (fun _ => ?_)
          walk_at "rd"
          rw [et]
          exact ⟨_, _, _, _, rfl, rfl⟩
        | some n =>
          rw [hc] at et
          refine itn (fun _ => ?_) (fun z => nomatch (show V.int n = V.non from z))
          rw [show ocnt (some n) = V.int n from rfl]
          walk_at "rd"
          rw [et]
          exact ⟨_, _, _, _, rfl, rfl⟩
      · rintro σ' H3 ⟨q2, q3, q4, q5, rfl, rfl⟩
        rw [ly, List.take_of_length_le (Nat.le_refl _)]
        walk_at "rd"
        exact k
end
end KN
end
section
set_option Elab.async false
set_option linter.all false
set_option maxRecDepth 100000
set_option maxHeartbeats 4000000
set_option pp.maxSteps 1500
set_option pp.deepTerms false
local macro_rules | `(tactic| walk_at "ne") => `(tactic| first
  | assumption | (apply Ne.symm; assumption)
  | exact R.ne_new (by assumption) | exact (R.ne_new (by assumption)).symm
  | exact L2.ne_of_none (by assumption) (by assumption) | exact (L2.ne_of_none (by assumption) (by assumption)).symm
  | exact L2.ne_of_none (by assumption) (R.free_new (by assumption)) | exact (L2.ne_of_none (by assumption) (R.free_new (by assumption))).symm)
local macro_rules | `(tactic| walk_at "at") => `(tactic| first
  | assumption | exact L2.upd_same
  | (refine R.sb (H := ?H) (p := ?p) ?e ?n ?h; (case e => assumption); (case n => walk_at "ne"); (case h => walk_at "at"))
  | (refine R.sm (H := ?H) ?e ?h; (case e => assumption); (case h => walk_at "at"))
  | (refine Eq.trans (L2.upd_ne ?_) ?_ <;> first | walk_at "ne" | walk_at "at"))
local macro_rules | `(tactic| walk_at "sqt") => `(tactic| first | assumption | (refine L2.SqT.of ?_; walk_at "at"))
local macro_rules | `(tactic| walk_at "ty") => `(tactic| first | exact R.tyN | exact R.tyB | exact R.tyI | exact R.tyS | (refine R.tyT (xs := ?xs) ?h; case h => walk_at "at") | (refine R.tyL (xs := ?xs) ?h; case h => walk_at "at"))
local macro_rules | `(tactic| walk_at "kit") => `(tactic| first | exact R.kit_NoneType_tuple | exact R.kit_NoneType_list | exact R.kit_NoneType_bool | exact R.kit_NoneType_str | exact R.kit_NoneType_int | exact R.kit_bool_tuple | exact R.kit_bool_list | exact R.kit_bool_bool | exact R.kit_bool_str | exact R.kit_bool_int | exact R.kit_int_tuple | exact R.kit_int_list | exact R.kit_int_bool | exact R.kit_int_str | exact R.kit_int_int | exact R.kit_str_tuple | exact R.kit_str_list | exact R.kit_str_bool | exact R.kit_str_str | exact R.kit_str_int | exact R.kit_tuple_tuple | exact R.kit_tuple_list | exact R.kit_tuple_bool | exact R.kit_tuple_str | exact R.kit_tuple_int | exact R.kit_list_tuple | exact R.kit_list_list | exact R.kit_list_bool | exact R.kit_list_str | exact R.kit_list_int)
local macro_rules | `(tactic| walk_at "sz") => `(tactic| first | assumption | (refine Nat.le_trans ?_ (show 1000 ≤ PySem.sizeLine by decide); omega) | decide)
local macro_rules | `(tactic| walk_at "szl") => `(tactic| first | assumption | exact Nat.le_of_lt (L2.small1000 (by omega)) | decide | decide +kernel)
local macro_rules | `(tactic| walk_at "sqa") => `(tactic| first | assumption | exact R.SeqA.same (by assumption) (by assumption) | exact R.SeqA.new (by assumption) (by assumption) | (exact Or.inl (by walk_at "at")) | (exact Or.inr (by walk_at "at")))
local macro_rules | `(tactic| walk_at "ix") => `(tactic| first | rfl | (exact L2.atI_nat (by assumption)) | assumption)
local macro_rules | `(tactic| walk_at "cond") => `(tactic| first
  | exact Or.inl (by decide) | exact Or.inr (by decide) | exact Or.inl ⟨by omega, by omega⟩ | exact Or.inr ⟨by omega, by omega⟩
  | (constructor <;> omega) | (show _ ≠ _; omega) | decide | omega)
local macro_rules | `(tactic| walk_at "r1") => `(tactic| first
  | with_reducible refine R.seq ?_ | with_reducible refine R.asg ?_ | with_reducible refine R.ifs ?_ | with_reducible refine R.ret ?_ | with_reducible refine R.retN ?_ | with_reducible refine R.drop ?_ | with_reducible refine R.next ?_
  | with_reducible refine R.op ?_ | ((with_reducible refine R.var (v := ?v) ?h ?q); case h => rfl) | with_reducible refine R.c ?_ | with_reducible refine R.tst ?_ | with_reducible refine R.tb_ ?_ | with_reducible refine R.ex ?_
  | with_reducible refine R.i0 ?_ | with_reducible refine R.eqI ?_ | with_reducible refine R.neI ?_ | ((with_reducible refine R.ic ?_ ?_); · walk_at "cond") | with_reducible refine R.u0 ?_ | with_reducible refine R.un ?_
  | ((with_reducible refine R.eq ?_ ?_); · rfl) | ((with_reducible refine R.ne ?_ ?_); · rfl)
  | with_reducible refine R.and_ ?_ | with_reducible refine R.or_ ?_ | with_reducible refine R.not_ ?_ | with_reducible refine R.ife ?_ | with_reducible refine R.chain ?_
  | with_reducible refine R.cons ?_ | with_reducible refine R.nil ?_ | with_reducible refine R.call ?_ | with_reducible refine R.cb ?_ | with_reducible refine R.bm ?_
  | with_reducible refine R.gname ?_ | with_reducible refine R.gsub ?_ | with_reducible refine R.gnil ?_ | with_reducible refine R.gcons ?_ | with_reducible refine R.yes ?_
  | with_reducible refine R.int1 ?_ | ((with_reducible refine R.lenL (xs := ?xs) ?h ?q); case h => walk_at "at")
  | ((with_reducible refine R.ixL (xs := ?xs) (v := ?v) ?h ?e ?q); (case h => walk_at "at"); (case e => walk_at "ix"))
  | ((with_reducible refine R.setL (xs := ?xs) (n := ?n) ?h ?e ?q); (case h => walk_at "at"); (case e => rfl))
  | ((with_reducible refine R.append (xs := ?xs) ?h ?e ?q); (case h => walk_at "at"); (case e => walk_at "cond"))
  | with_reducible refine R.is_ ?_ | with_reducible refine R.isnot ?_ | with_reducible refine R.andV ?_ | with_reducible refine R.orV ?_ | with_reducible refine R.notV ?_
  | ((with_reducible refine R.isi (s := ?s) (b := ?b) ?ty ?h ?q); (case ty => walk_at "ty"); (case h => walk_at "kit"))
  | ((with_reducible refine R.addS ?h ?q); (case h => walk_at "sz")) | with_reducible refine R.max2 ?_ | with_reducible refine R.min2 ?_
  | ((with_reducible refine R.lenStr ?h ?q); (case h => walk_at "szl")) | ((with_reducible refine R.ixS (n := ?n) ?h ?e ?q); (case h => walk_at "szl"); (case e => walk_at "ix"))
  | ((with_reducible refine R.tyl (xs := ?xs) ?h ?q); (case h => walk_at "at")) | with_reducible refine R.itlist ?_ | with_reducible refine R.ittup ?_ | with_reducible refine R.m1 ?_ | with_reducible refine R.m1s ?_ | with_reducible refine R.leS ?_ | with_reducible refine R.itstr ?_ | with_reducible refine R.itstrE ?_ | with_reducible refine R.lc ?_ | with_reducible refine R.for_ ?_ | ((with_reducible refine R.all_ (bs := ?bs) ?h ?q); (case h => walk_at "at"))
  | with_reducible refine R.rng1 ?_ | ((with_reducible refine R.rngE ?h ?q); (case h => (constructor <;> omega)))
  | ((with_reducible refine R.lenT (xs := ?xs) ?h ?q); (case h => walk_at "sqt")) | ((with_reducible refine R.ixT (xs := ?xs) (v := ?v) ?h ?e ?q); (case h => walk_at "sqt"); (case e => walk_at "ix"))
  | ((refine R.itlE (xs := ?xs) ?h ?q); (case h => walk_at "at")) | ((refine R.ittE (xs := ?xs) ?h ?q); (case h => walk_at "at"))
  | ((refine R.gseq (xs := ?xs) ?h ?e ?q); (case h => walk_at "sqa"); (case e => rfl)) | ((refine R.ixA (xs := ?xs) (v := ?v) ?h ?e ?q); (case h => walk_at "sqa"); (case e => walk_at "ix")) | ((refine R.lenA (xs := ?xs) ?h ?q); (case h => walk_at "sqa"))
  | ((with_reducible refine R.gtup (xs := ?xs) ?h ?e ?q); (case h => walk_at "sqt"); (case e => rfl))
  | with_reducible refine R.din_ ?_ | with_reducible refine R.dput_ ?_
  | with_reducible refine R.sfld ?_ | with_reducible refine R.fld_ ?_ | with_reducible refine R.dc ?_
  | with_reducible refine R.dget1_ ?_
  | with_reducible refine R.itseq ?_ | with_reducible refine R.itenum ?_
  | with_reducible refine R.itT ?_ | with_reducible refine R.itF ?_ | with_reducible refine R.itNT ?_ | with_reducible refine R.itNF ?_
  | (with_reducible refine R.tup ?_) | (with_reducible refine R.lst ?_))
local macro_rules | `(tactic| walk_at "rd") => `(tactic| (repeat (first | walk_at "r1" | (dsimp only [Int.reduceToNat, List.set_cons_succ, List.set_cons_zero, List.length_cons, List.length_nil, List.nil_append, List.cons_append, List.append_nil]))))
local macro_rules | `(tactic| walk_at "go") => `(tactic| (rw [R.start_eq]; dsimp only [R.startE, List.map_nil]; walk_at "rd"))
namespace KN
open PySem L2 SX R
open C8 (Cal Def cal0 pe_c pe_gc fnScope fnBody pss_cut)
section
variable {P : Program} {w : World} {K : PySem.W.Frag} {mg : Str → Option Value} {base : Heap}
abbrev sGreat : Stmt := top 23
theorem scGreat : FnScope ["pool", "rows", "simple", "multipliers", "seen", "k", "value", "rest", "count", "row"] ["pool", "rows"] (fnScope sGreat) := ⟨rfl, rfl, rfl, by decide +kernel, rfl, by decide +kernel, by decide +kernel⟩
def without (H : Hp) (s m : Addr) : Hp := fun b => if b = s ∨ b = m then none else H b
theorem without_some {H : Hp} {s m b : Addr} {o : HO} (h : without H s m b = some o) : H b = some o ∧ b ≠ s ∧ b ≠ m := by
  unfold without at h
  split at h
  · cases h
  · rename_i hn
    exact ⟨h, fun e => hn (.inl e), fun e => hn (.inr e)⟩
theorem without_ne {H : Hp} {s m b : Addr} (h1 : b ≠ s) (h2 : b ≠ m) : without H s m b = H b := by
  unfold without
  rw [if_neg (fun z => z.elim h1 h2)]
theorem catL {H : Hp} {a b : Addr} {xs ys : List V} {Q : VK} (h1 : H a = some (.lst xs)) (h2 : H b = some (.lst ys)) (hz : xs.length + ys.length ≤ sizeLine) (q : ∀ p, H p = none → Q (.ref p) (upd H p (.lst (xs ++ ys)))) : rCat (.ref a) (.ref b) H Q :=
  ⟨a, b, xs, ys, rfl, rfl, h1, h2, hz, q⟩
theorem LM.appS {H0 H : Hp} {p l q s m a : Addr} {ws : List Str} {xs ys : List V} {ds es : List (List V)} {d : List V} (M : LM H0 H p l q s m ws xs ds ys es) (h : H a = some (.tup d)) : LM H0 (upd H s (.lst (xs ++ [.ref a]))) p l q s m ws (xs ++ [.ref a]) (ds ++ [d]) ys es :=
  ⟨M.R.app h, by rw [upd_ne M.ms]; exact M.hm, M.tm.keep (keep_list M.R.hs), M.m0, M.mp, M.ml, M.mq, M.ms⟩
theorem nodup_mid {A B : List Str} {z : Str} (h : (A ++ B).Nodup) (n : z ∉ A ++ B) : (A ++ [z] ++ B).Nodup := by
  rw [List.append_assoc]
  show (A ++ z :: B).Nodup
  rw [(List.perm_middle (a := z) (l₁ := A) (l₂ := B)).nodup_iff]
  exact List.nodup_cons.mpr ⟨n, h⟩
def spGreat : Sp := fun vs H Q _ => ∃ (p l t s m : Addr) (xs ys : List V) (rs : List SR) (ms : List MR), vs = [.ref p, .ref t] ∧ PoolAt H p l ∧ H t = some (.tup [.ref s, .ref m]) ∧ H s = some (.lst xs) ∧ H m = some (.lst ys) ∧ s ≠ m ∧ s ≠ p ∧ s ≠ l ∧ m ≠ p ∧ m ≠ l ∧
  TupsAt H xs (rs.map srV) ∧ TupsAt H ys (ms.map mrV) ∧ GoodSys rs ms ∧
  ∀ (H' : Hp) (xs' ys' : List V) (rs' : List SR) (ms' : List MR), (∀ b o, b ≠ p → b ≠ s → b ≠ m → H b = some o → H' b = some o) → PoolAt H' p l → H' s = some (.lst xs') → H' m = some (.lst ys') → TupsAt H' xs' (rs'.map srV) → TupsAt H' ys' (ms'.map mrV) → GoodSys rs' ms' → Q .non H'
theorem c_great (Z : Zs mg) (c_take : Cal P w K mg base 2 "_law_take" spTake []) (c_word : Cal P w K mg base 3 "_law_word" spWord []) {f : Addr} {fd : FuncData} (F : Def K mg "_law_great" sGreat f fd) (b : Binds K fd ["pool", "rows"] []) : Cal P w K mg base 4 "_law_great" spGreat [] := by
  refine cal0 F b .nil scGreat (fun vs H Q E h => ?_) (fun cdv A outer s H vs Q E hr h => ?_)
  · obtain ⟨p, l, t, s, m, xs, ys, rs, ms, rfl, _⟩ := h
    rfl
  · obtain ⟨p, l, t, s, m, xs, ys, rs, ms, rfl, hP, ht, hs, hm, sm, sp, sl, mp, ml, hts, htm, hg, k⟩ := h
    refine ⟨_, pss_cons (ps_asg (pv 1) (kgTup K (n := 2) rfl (pgs_cons (pg_name (i := 2) scGreat.nd rfl (Or.inl rfl)) (pgs_cons (pg_name (i := 3) scGreat.nd rfl (Or.inl rfl)) pgs_nil))))
      (pss_cons (ps_setLc (i := 4) (own := [("row", 9)]) (g := gName 9) (tt := tYes) rfl scGreat.nd rfl rfl (sw_true rfl rfl rfl (by decide +kernel)) (kiL K (pe_op op_cat (pv 2) (pv 3))) (blkOk_by (own := [("row", 9)]) (N := ["pool", "rows", "simple", "multipliers", "seen", "k", "value", "rest", "count", "row"]) (sc := fnScope sGreat) (by decide +kernel)) (fun _ _ _ _ _ => (pg_name (i := 9) scGreat.nd rfl (Or.inl rfl))) (fun _ _ _ _ _ => pts_nil) (fun _ _ _ _ _ => pe_ix (kIxT K) (pv 9) pe_int (fun _ _ => rfl)))
      (pss_cut (ps_for PassesOwn.never rfl (pi_range1 (by rfl) Z.range (pa_cons (pe_c c_take hr (by omega) (by rfl) (pa_cons (pv 0) (pa_cons pe_int pa_nil))) pa_nil)) (pg_name (i := 5) scGreat.nd rfl (Or.inl rfl))
        (pss_one (ps_if (pt_cmpR op_lt (pe_callB (kLen K) (by rfl) Z.len PySem.boot_len (pa_cons (pv 2) pa_nil)) pe_int (nomark _))
        (pss_one (ps_expr (kBM K (pe_bm PySem.F.plainAttrs_list PySem.F.slot_list_append PySem.F.type_list_append mt_append (pv 2) (pa_cons (pe_tup (pa_cons (pe_c c_word hr (by omega) (by rfl) (pa_cons (pv 0) (pa_cons (pv 4) pa_nil))) (pa_cons (pe_ix (kIxT K) (pe_tup (pa_cons pe_int (pa_cons pe_int (pa_cons (pe_op op_add pe_int (pe_c c_take hr (by omega) (by rfl) (pa_cons (pv 0) (pa_cons pe_int pa_nil)))) pa_nil)))) (pe_c c_take hr (by omega) (by rfl) (pa_cons (pv 0) (pa_cons pe_int pa_nil))) (fun _ _ => rfl)) pa_nil))) pa_nil)))))
        (pss_nil))))
      (pss_one (ps_for PassesOwn.never rfl (pi_range1 (by rfl) Z.range (pa_cons (pe_c c_take hr (by omega) (by rfl) (pa_cons (pv 0) (pa_cons pe_int pa_nil))) pa_nil)) (pg_name (i := 5) scGreat.nd rfl (Or.inl rfl))
        (pss_cons (ps_set (i := 6) scGreat.nd rfl (Or.inl rfl) (pe_ix (kIxT K) (pe_tup (pa_cons pe_int (pa_cons (pe_op op_add pe_int (pe_c c_take hr (by omega) (by rfl) (pa_cons (pv 0) (pa_cons pe_int pa_nil)))) pa_nil))) (pe_c c_take hr (by omega) (by rfl) (pa_cons (pv 0) (pa_cons pe_int pa_nil))) (fun _ _ => rfl)))
      (pss_cons (ps_set (i := 7) scGreat.nd rfl (Or.inl rfl) (pe_c c_take hr (by omega) (by rfl) (pa_cons (pv 0) (pa_cons (pe_callB kMin2 (by rfl) Z.min (by decide +kernel) (pa_cons (pv 6) (pa_cons (pe_op op_sub pe_int (pv 6)) pa_nil))) pa_nil))))
      (pss_cons (ps_set (i := 8) scGreat.nd rfl (Or.inl rfl) (pe_op op_fdivN (pe_op op_sub pe_int (pv 7)) (pv 6)))
      (pss_one (ps_if (pt_cmpR op_lt (pe_callB (kLen K) (by rfl) Z.len PySem.boot_len (pa_cons (pv 3) pa_nil)) pe_int (nomark _))
        (pss_one (ps_expr (kBM K (pe_bm PySem.F.plainAttrs_list PySem.F.slot_list_append PySem.F.type_list_append mt_append (pv 3) (pa_cons (pe_tup (pa_cons (pe_c c_word hr (by omega) (by rfl) (pa_cons (pv 0) (pa_cons (pv 4) pa_nil))) (pa_cons (pv 6) (pa_cons (pe_ix (kIxT K) (pe_tup (pa_cons (pv 8) (pa_cons pe_int pa_nil))) (pe_c c_take hr (by omega) (by rfl) (pa_cons (pv 0) (pa_cons pe_int pa_nil))) (fun _ _ => rfl)) (pa_cons (pe_cmpR op_eq (pe_c c_take hr (by omega) (by rfl) (pa_cons (pv 0) (pa_cons pe_int pa_nil))) pe_int (nomark _)) (pa_cons (pv 7) pa_nil)))))) pa_nil)))))
        (pss_nil)))))))))), ?_⟩
    have lx : xs.length = rs.length := by have := hts.len; rwa [List.length_map] at this
    have ly : ys.length = ms.length := by have := htm.len; rwa [List.length_map] at this
    have gsl := hg.sl
    have gml := hg.ml
    walk_at "go"
    refine catL hs hm (Nat.le_of_lt (small1000 (by omega))) fun c hc => ?_
    have s1 : Same H (upd H c (.lst (xs ++ ys))) := same_new (Same.refl H) hc
    have hc1 : upd H c (.lst (xs ++ ys)) c = some (.lst (xs ++ ys)) := upd_same
    generalize upd H c (.lst (xs ++ ys)) = H1 at s1 hc1
    have items : ∀ i, i < rs.length + ms.length → ∃ b z d, (xs ++ ys)[i]? = some (.ref b) ∧ H b = some (.tup (.str z :: d)) ∧ (rs.map (·.w) ++ ms.map (·.w))[i]? = some z := by
      intro i hi
      by_cases h : i < rs.length
      · have hri : rs[i]? = some rs[i] := List.getElem?_eq_getElem h
        obtain ⟨b, hb, hbt⟩ := hts.get i (srV rs[i]) (by rw [List.getElem?_map, hri]; rfl)
        exact ⟨b, rs[i].w, _, by rw [List.getElem?_append_left (by omega)]; exact hb, hbt, by rw [List.getElem?_append_left (by rw [List.length_map]; exact h), List.getElem?_map, hri]; rfl⟩
      · have hi2 : i - rs.length < ms.length := by omega
        have hri : ms[i - rs.length]? = some ms[i - rs.length] := List.getElem?_eq_getElem hi2
        obtain ⟨b, hb, hbt⟩ := htm.get (i - rs.length) (mrV ms[i - rs.length]) (by rw [List.getElem?_map, hri]; rfl)
        exact ⟨b, ms[i - rs.length].w, _, by rw [List.getElem?_append_right (by omega), lx]; exact hb, hbt, by rw [List.getElem?_append_right (by rw [List.length_map]; omega), List.length_map, List.getElem?_map, hri]; rfl⟩
    walk_at "rd"
    intro D hD
    have hall : (xs ++ ys).length = rs.length + ms.length := by rw [List.length_append]; omega
    refine lc_it (walk_list (K := K) (a := c) (xs := xs ++ ys)) (fun i H' => Same H1 H' ∧ H' D = some (.lst (((rs.map (·.w) ++ ms.map (·.w)).take i).map V.str))) ⟨same_new (Same.refl _) hD, upd_same⟩ (fun i H' _ hp' => SqL.of (hp'.1 _ _ hc1)) ?_ ?_
    · rintro i u H2 H2' hi ⟨s2, hD2⟩ ⟨rfl, hu⟩
      obtain ⟨b, z, d, hb, hbt, hz⟩ := items i (by omega)
      rw [hb] at hu
      cases hu
      have hb2 := s2 _ _ (s1 _ _ hbt)
      refine R.gname ⟨rfl, ?_⟩
      walk_at "rd"
      refine R.ixT (SqT.of hb2) (atI_nat (j := 0) rfl) ?_
      refine ⟨_, hD2, small1000 (by rw [List.length_map, List.length_take, List.length_append, List.length_map, List.length_map]; omega), same_put s2 hD, ?_⟩
      rw [upd_same, List.take_add_one, hz, List.map_append]
      rfl
    · rintro H2 ⟨s2, hD2⟩
      rw [hall, List.take_of_length_le (by rw [List.length_append, List.length_map, List.length_map]; exact Nat.le_refl _)] at hD2
      have hP2 := (hP.same s1).same s2
      obtain ⟨Dp, Dl⟩ := (hP.same s1).nep hD
      have Ds : D ≠ s := (ne_of_none (s1 _ _ hs) hD).symm
      have Dm : D ≠ m := (ne_of_none (s1 _ _ hm) hD).symm
      have M0 : LM (without H s m) H2 p l D s m (rs.map (·.w) ++ ms.map (·.w)) xs (rs.map srV) ys (ms.map mrV) :=
        ⟨⟨fun b o n h => s2 _ _ (s1 _ _ (without_some h).1), hP2, hD2, s2 _ _ (s1 _ _ hs), (hts.keep fun a d h => s2 _ _ (s1 _ _ h)), by rw [without_ne Ds Dm]; exact s1.free hD, by unfold without; rw [if_pos (.inl rfl)], Dp, Dl, sp, sl, Ds⟩,
          s2 _ _ (s1 _ _ hm), (htm.keep fun a d h => s2 _ _ (s1 _ _ h)), by unfold without; rw [if_pos (.inr rfl)], mp, ml, Dm.symm, sm.symm⟩
      walk_at "rd"
      refine R.cut (fun σ' H' => ∃ (kv : Option V) (rs' : List SR) (xs' : List V) (ws : List Str), σ' = [some (.ref p), some (.ref t), some (.ref s), some (.ref m), some (.ref D), kv, none, none, none, none] ∧
        LM (without H s m) H' p l D s m ws xs' (rs'.map srV) ys (ms.map mrV) ∧ GoodSys rs' ms ∧ (∀ z, z ∈ rs'.map (·.w) ++ ms.map (·.w) → z ∈ ws) ∧ ws.length ≤ 48) ?_ ?_
      · walk_at "rd"
        refine r_take' M0.R.P (by omega) (by omega) (fun H4 n e4 P4 n0 n1 => ?_)
        have M4 := M0.take e4 P4
        walk_at "rd"
        refine for_it walk_range (fun i σ' H' => ∃ (kv : Option V) (rs' : List SR) (xs' : List V) (ws : List Str), σ' = [some (.ref p), some (.ref t), some (.ref s), some (.ref m), some (.ref D), kv, none, none, none, none] ∧
          LM (without H s m) H' p l D s m ws xs' (rs'.map srV) ys (ms.map mrV) ∧ GoodSys rs' ms ∧ (∀ z, z ∈ rs'.map (·.w) ++ ms.map (·.w) → z ∈ ws) ∧ ws.length ≤ 30 + i)
          ⟨none, rs, xs, _, rfl, M4, hg, fun z h => h, by rw [List.length_append, List.length_map, List.length_map]; omega⟩ (fun _ _ _ _ _ => trivial) ?_ ?_
        · rintro i x σ' H5 H5' hi ⟨kv, rs', xs', ws, rfl, M5, hg5, hws, hwl⟩ ⟨rfl, rfl⟩
          have hs5 := M5.R.hs
          have lx5 : xs'.length = rs'.length := by have := M5.R.ts.len; rwa [List.length_map] at this
          have g5 := hg5.sl
          walk_at "rd"
          refine it (fun h1 => ?_) (fun h1 => ?_)
          · walk_at "rd"
            refine r_word M5.R.P Dp Dl M5.R.hq (by omega) (fun H6 z e6 P6 hq6 gz nz => ?_)
            have M6 := M5.word e6 P6 hq6
            walk_at "rd"
            refine r_take' M6.R.P (by omega) (by omega) (fun H7 d7 e7 P7 l7 u7 => ?_)
            have M7 := M6.take e7 P7
            walk_at "rd"
            refine ⟨by decide, fun t1 ht1 => ?_⟩
            have M8 := M7.new (o := .tup [.int 1, .int 100000, .int (1 + d7)]) ht1
            have ht8 : upd H7 t1 (.tup [V.int 1, .int 100000, .int (1 + d7)]) t1 = some (.tup [.int 1, .int 100000, .int (1 + d7)]) := upd_same
            have tp := (M7.R.P.nep ht1).1
            generalize upd H7 t1 (.tup [V.int 1, .int 100000, .int (1 + d7)]) = H8 at M8 ht8
            walk_at "rd"
            refine r_take' M8.R.P (by omega) (by omega) (fun H9 d9 e9 P9 l9 u9 => ?_)
            have M9 := M8.take e9 P9
            have ht9 := e9 _ _ tp ht8
            obtain ⟨v, hv, ev⟩ := atI_in (xs := [V.int 1, .int 100000, .int (1 + d7)]) l9 u9
            obtain ⟨vv, rfl, v1, v2⟩ : ∃ vv : Int, v = .int vv ∧ 1 ≤ vv ∧ vv ≤ 100000 := by
              simp only [List.mem_cons, List.not_mem_nil, or_false] at hv
              rcases hv with rfl | rfl | rfl
              · exact ⟨_, rfl, by omega, by omega⟩
              · exact ⟨_, rfl, by omega, by omega⟩
              · exact ⟨_, rfl, by omega, by omega⟩
            walk_at "rd"
            refine ⟨by decide, fun a ha => ?_⟩
            have M10 := M9.new (o := .tup [.str z, .int vv]) ha
            have ha10 : upd H9 a (.tup [V.str z, .int vv]) a = some (.tup [V.str z, .int vv]) := upd_same
            generalize upd H9 a (.tup [V.str z, .int vv]) = H10 at M10 ha10
            walk_at "rd"
            refine R.append M10.R.hs (small1000 (by omega)) ?_
            walk_at "rd"
            have nz' : z ∉ rs'.map (·.w) ++ ms.map (·.w) := fun h => nz (hws z h)
            refine ⟨_, rs' ++ [⟨z, vv⟩], xs' ++ [.ref a], ws ++ [z], rfl, ?_, ⟨fun r hr => ?_, hg5.m, ?_, by rw [List.length_append]; show rs'.length + 1 ≤ 24; omega, hg5.ml, hg5.one⟩, fun y hy => ?_, by rw [List.length_append]; show ws.length + 1 ≤ _; omega⟩
            · rw [List.map_append]
              exact M10.appS ha10
            · rcases List.mem_append.mp hr with h | h
              · exact hg5.s r h
              · rw [List.mem_singleton.mp h]
                exact ⟨gz, v1, v2⟩
            · rw [List.map_append]
              exact nodup_mid hg5.nd nz'
            · rw [List.map_append] at hy
              rcases List.mem_append.mp hy with h | h
              · rcases List.mem_append.mp h with h | h
                · exact List.mem_append_left _ (hws y (List.mem_append_left _ h))
                · exact List.mem_append_right _ h
              · exact List.mem_append_left _ (hws y (List.mem_append_right _ h))
          · walk_at "rd"
            exact ⟨_, rs', xs', ws, rfl, M5, hg5, hws, by omega⟩
        · rintro σ' H5 ⟨kv, rs', xs', ws, rfl, M5, hg5, hws, hwl⟩
          exact ⟨kv, rs', xs', ws, rfl, M5, hg5, hws, by omega⟩
      · rintro σ' H3 ⟨kv, rs1, xs1, ws1, rfl, M3, hg3, hws3, hwl3⟩
        walk_at "rd"
        refine r_take' M3.R.P (by omega) (by omega) (fun H4 n e4 P4 n0 n1 => ?_)
        have M4 := M3.take e4 P4
        walk_at "rd"
        refine for_it walk_range (fun i σ' H' => ∃ (kv v6 v7 v8 : Option V) (ms' : List MR) (ys' : List V) (ws : List Str), σ' = [some (.ref p), some (.ref t), some (.ref s), some (.ref m), some (.ref D), kv, v6, v7, v8, none] ∧
          LM (without H s m) H' p l D s m ws xs1 (rs1.map srV) ys' (ms'.map mrV) ∧ GoodSys rs1 ms' ∧ (∀ z, z ∈ rs1.map (·.w) ++ ms'.map (·.w) → z ∈ ws) ∧ ws.length ≤ 48 + i) ⟨kv, none, none, none, ms, ys, ws1, rfl, M4, hg3, hws3, by omega⟩ (fun _ _ _ _ _ => trivial) ?_ ?_
        · rintro i x σ' H5 H5' hi ⟨kv, v6, v7, v8, ms', ys', ws, rfl, M5, hg5, hws, hwl⟩ ⟨rfl, rfl⟩
          walk_at "rd"
          refine r_take' M5.R.P (by omega) (by omega) (fun H6 d6 e6 P6 l6 u6 => ?_)
          have M6 := M5.take e6 P6
          walk_at "rd"
          refine ⟨by decide, fun t1 ht1 => ?_⟩
          have M7 := M6.new (o := .tup [.int 100000, .int (2 + d6)]) ht1
          have ht7 : upd H6 t1 (.tup [V.int 100000, .int (2 + d6)]) t1 = some (.tup [.int 100000, .int (2 + d6)]) := upd_same
          have tp := (M6.R.P.nep ht1).1
          generalize upd H6 t1 (.tup [V.int 100000, .int (2 + d6)]) = H7 at M7 ht7
          walk_at "rd"
          refine r_take' M7.R.P (by omega) (by omega) (fun H8 d8 e8 P8 l8 u8 => ?_)
          have M8 := M7.take e8 P8
          have ht8 := e8 _ _ tp ht7
          obtain ⟨v, hv, ev⟩ := atI_in (xs := [V.int 100000, .int (2 + d6)]) l8 u8
          obtain ⟨vv, rfl, v1, v2⟩ : ∃ vv : Int, v = .int vv ∧ 2 ≤ vv ∧ vv ≤ 100000 := by
            simp only [List.mem_cons, List.not_mem_nil, or_false] at hv
            rcases hv with rfl | rfl
            · exact ⟨_, rfl, by omega, by omega⟩
            · exact ⟨_, rfl, by omega, by omega⟩
          walk_at "rd"
          obtain ⟨bb, hbb, b1, b2, b3⟩ : ∃ bb : Int, (if 100001 - vv < vv then 100001 - vv else vv) = bb ∧ 1 ≤ bb ∧ bb ≤ vv ∧ bb ≤ 100001 - vv := ⟨_, rfl, by split <;> omega, by split <;> omega, by split <;> omega⟩
          rw [hbb]
          refine r_take' M8.R.P (by omega) (by omega) (fun H9 d9 e9 P9 l9 u9 => ?_)
          have M9 := M8.take e9 P9
          have hm9 := M9.hm
          have ly9 : ys'.length = ms'.length := by have := M9.tm.len; rwa [List.length_map] at this
          have g9 := hg5.ml
          walk_at "rd"
          obtain ⟨cc, hcc, c1, c2, c3⟩ : ∃ cc : Int, (100000 - d9).fdiv vv = cc ∧ 1 ≤ cc ∧ cc ≤ 100000 ∧ cc * vv + d9 ≤ 100000 := by
            refine ⟨_, rfl, ?_, ?_, ?_⟩
            · rw [Int.fdiv_eq_ediv_of_nonneg _ (by omega)]
              exact (Int.le_ediv_iff_mul_le (by omega)).mpr (by omega)
            · rw [Int.fdiv_eq_ediv_of_nonneg _ (by omega)]
              have := Int.ediv_le_self vv (show 0 ≤ 100000 - d9 by omega)
              omega
            · rw [Int.fdiv_eq_ediv_of_nonneg _ (by omega)]
              have := Int.ediv_mul_le (100000 - d9) (show vv ≠ 0 by omega)
              omega
          rw [hcc]
          refine it (fun h1 => ?_) (fun h1 => ?_)
          · walk_at "rd"
            refine r_word M9.R.P Dp Dl M9.R.hq (by omega) (fun H10 z e10 P10 hq10 gz nz => ?_)
            have M10 := M9.word e10 P10 hq10
            walk_at "rd"
            refine ⟨by decide, fun t2 ht2 => ?_⟩
            have M11 := M10.new (o := .tup [.int cc, .int 1]) ht2
            have ht11 : upd H10 t2 (.tup [V.int cc, .int 1]) t2 = some (.tup [.int cc, .int 1]) := upd_same
            have tp2 := (M10.R.P.nep ht2).1
            generalize upd H10 t2 (.tup [V.int cc, .int 1]) = H11 at M11 ht11
            walk_at "rd"
            refine r_take' M11.R.P (by omega) (by omega) (fun H12 d12 e12 P12 l12 u12 => ?_)
            have M12 := M11.take e12 P12
            have ht12 := e12 _ _ tp2 ht11
            obtain ⟨v', hv', ev'⟩ := atI_in (xs := [V.int cc, .int 1]) l12 u12
            obtain ⟨c', rfl, q1, q2, q3⟩ : ∃ c' : Int, v' = .int c' ∧ 1 ≤ c' ∧ c' ≤ 100000 ∧ c' * vv + d9 ≤ 100000 := by
              simp only [List.mem_cons, List.not_mem_nil, or_false] at hv'
              rcases hv' with rfl | rfl
              · exact ⟨_, rfl, c1, c2, c3⟩
              · exact ⟨_, rfl, by omega, by omega, by omega⟩
            walk_at "rd"
            refine r_take' M12.R.P (by omega) (by omega) (fun H13 d13 e13 P13 l13 u13 => ?_)
            have M13 := M12.take e13 P13
            walk_at "rd"
            refine ⟨by decide, fun a ha => ?_⟩
            have M14 := M13.new (o := .tup [.str z, .int vv, .int c', .bl (decide (d13 = 1)), .int d9]) ha
            have ha14 : upd H13 a (.tup [.str z, .int vv, .int c', .bl (decide (d13 = 1)), .int d9]) a = some (.tup [.str z, .int vv, .int c', .bl (decide (d13 = 1)), .int d9]) := upd_same
            generalize upd H13 a (.tup [.str z, .int vv, .int c', .bl (decide (d13 = 1)), .int d9]) = H14 at M14 ha14
            walk_at "rd"
            refine R.append M14.hm (small1000 (by omega)) ?_
            walk_at "rd"
            have nz' : z ∉ rs1.map (·.w) ++ ms'.map (·.w) := fun h => nz (hws z h)
            refine ⟨_, _, _, _, ms' ++ [⟨z, vv, some c', decide (d13 = 1), d9⟩], ys' ++ [.ref a], ws ++ [z], rfl, ?_, ⟨hg5.s, fun r hr => ?_, ?_, hg5.sl, by rw [List.length_append]; show ms'.length + 1 ≤ 6; omega, ?_⟩, fun y hy => ?_, by rw [List.length_append]; show ws.length + 1 ≤ _; omega⟩
            · rw [List.map_append]
              exact M14.app ha14
            · rcases List.mem_append.mp hr with h | h
              · exact hg5.m r h
              · rw [List.mem_singleton.mp h]
                exact ⟨gz, v1, v2, fun c hc => by cases hc; exact ⟨q1, q2, q3⟩, l9, by show d9 < vv; omega⟩
            · rw [List.map_append, ← List.append_assoc]
              exact nodup_snoc hg5.nd nz'
            · rw [List.filter_append, List.length_append]
              exact hg5.one
            · rw [List.map_append, ← List.append_assoc] at hy
              rcases List.mem_append.mp hy with h | h
              · exact List.mem_append_left _ (hws y h)
              · exact List.mem_append_right _ h
          · walk_at "rd"
            exact ⟨_, _, _, _, ms', ys', ws, rfl, M9, hg5, hws, by omega⟩
        · rintro σ' H5 ⟨kv, v6, v7, v8, ms', ys', ws, rfl, M5, hg5, hws, hwl⟩
          exact k H5 xs1 ys' rs1 ms' (fun b o b1 b2 b3 h => M5.R.sb b o b1 (by rw [without_ne b2 b3]; exact h)) M5.R.P M5.R.hs M5.hm M5.R.ts M5.tm hg5
end
end KN
end
section
set_option Elab.async false
set_option linter.all false
set_option maxRecDepth 100000
set_option maxHeartbeats 4000000
set_option pp.maxSteps 1500
set_option pp.deepTerms false
local macro_rules | `(tactic| walk_at "ne") => `(tactic| first
  | assumption | (apply Ne.symm; assumption)
  | exact R.ne_new (by assumption) | exact (R.ne_new (by assumption)).symm
  | exact L2.ne_of_none (by assumption) (by assumption) | exact (L2.ne_of_none (by assumption) (by assumption)).symm
  | exact L2.ne_of_none (by assumption) (R.free_new (by assumption)) | exact (L2.ne_of_none (by assumption) (R.free_new (by assumption))).symm)
local macro_rules | `(tactic| walk_at "at") => `(tactic| first
  | assumption | exact L2.upd_same
  | (refine R.sb (H := ?H) (p := ?p) ?e ?n ?h; (case e => assumption); (case n => walk_at "ne"); (case h => walk_at "at"))
  | (refine R.sm (H := ?H) ?e ?h; (case e => assumption); (case h => walk_at "at"))
  | (refine Eq.trans (L2.upd_ne ?_) ?_ <;> first | walk_at "ne" | walk_at "at"))
local macro_rules | `(tactic| walk_at "sqt") => `(tactic| first | assumption | (refine L2.SqT.of ?_; walk_at "at"))
local macro_rules | `(tactic| walk_at "ty") => `(tactic| first | exact R.tyN | exact R.tyB | exact R.tyI | exact R.tyS | (refine R.tyT (xs := ?xs) ?h; case h => walk_at "at") | (refine R.tyL (xs := ?xs) ?h; case h => walk_at "at"))
local macro_rules | `(tactic| walk_at "kit") => `(tactic| first | exact R.kit_NoneType_tuple | exact R.kit_NoneType_list | exact R.kit_NoneType_bool | exact R.kit_NoneType_str | exact R.kit_NoneType_int | exact R.kit_bool_tuple | exact R.kit_bool_list | exact R.kit_bool_bool | exact R.kit_bool_str | exact R.kit_bool_int | exact R.kit_int_tuple | exact R.kit_int_list | exact R.kit_int_bool | exact R.kit_int_str | exact R.kit_int_int | exact R.kit_str_tuple | exact R.kit_str_list | exact R.kit_str_bool | exact R.kit_str_str | exact R.kit_str_int | exact R.kit_tuple_tuple | exact R.kit_tuple_list | exact R.kit_tuple_bool | exact R.kit_tuple_str | exact R.kit_tuple_int | exact R.kit_list_tuple | exact R.kit_list_list | exact R.kit_list_bool | exact R.kit_list_str | exact R.kit_list_int)
local macro_rules | `(tactic| walk_at "sz") => `(tactic| first | assumption | (refine Nat.le_trans ?_ (show 1000 ≤ PySem.sizeLine by decide); omega) | decide)
local macro_rules | `(tactic| walk_at "szl") => `(tactic| first | assumption | exact Nat.le_of_lt (L2.small1000 (by omega)) | decide | decide +kernel)
local macro_rules | `(tactic| walk_at "sqa") => `(tactic| first | assumption | exact R.SeqA.same (by assumption) (by assumption) | exact R.SeqA.new (by assumption) (by assumption) | (exact Or.inl (by walk_at "at")) | (exact Or.inr (by walk_at "at")))
local macro_rules | `(tactic| walk_at "ix") => `(tactic| first | rfl | (exact L2.atI_nat (by assumption)) | assumption)
local macro_rules | `(tactic| walk_at "cond") => `(tactic| first
  | exact Or.inl (by decide) | exact Or.inr (by decide) | exact Or.inl ⟨by omega, by omega⟩ | exact Or.inr ⟨by omega, by omega⟩
  | (constructor <;> omega) | (show _ ≠ _; omega) | decide | omega)
local macro_rules | `(tactic| walk_at "r1") => `(tactic| first
  | with_reducible refine R.seq ?_ | with_reducible refine R.asg ?_ | with_reducible refine R.ifs ?_ | with_reducible refine R.ret ?_ | with_reducible refine R.retN ?_ | with_reducible refine R.drop ?_ | with_reducible refine R.next ?_
  | with_reducible refine R.op ?_ | ((with_reducible refine R.var (v := ?v) ?h ?q); case h => rfl) | with_reducible refine R.c ?_ | with_reducible refine R.tst ?_ | with_reducible refine R.tb_ ?_ | with_reducible refine R.ex ?_
  | with_reducible refine R.i0 ?_ | with_reducible refine R.eqI ?_ | with_reducible refine R.neI ?_ | ((with_reducible refine R.ic ?_ ?_); · walk_at "cond") | with_reducible refine R.u0 ?_ | with_reducible refine R.un ?_
  | ((with_reducible refine R.eq ?_ ?_); · rfl) | ((with_reducible refine R.ne ?_ ?_); · rfl)
  | with_reducible refine R.and_ ?_ | with_reducible refine R.or_ ?_ | with_reducible refine R.not_ ?_ | with_reducible refine R.ife ?_ | with_reducible refine R.chain ?_
  | with_reducible refine R.cons ?_ | with_reducible refine R.nil ?_ | with_reducible refine R.call ?_ | with_reducible refine R.cb ?_ | with_reducible refine R.bm ?_
  | with_reducible refine R.gname ?_ | with_reducible refine R.gsub ?_ | with_reducible refine R.gnil ?_ | with_reducible refine R.gcons ?_ | with_reducible refine R.yes ?_
  | with_reducible refine R.int1 ?_ | ((with_reducible refine R.lenL (xs := ?xs) ?h ?q); case h => walk_at "at")
  | ((with_reducible refine R.ixL (xs := ?xs) (v := ?v) ?h ?e ?q); (case h => walk_at "at"); (case e => walk_at "ix"))
  | ((with_reducible refine R.setL (xs := ?xs) (n := ?n) ?h ?e ?q); (case h => walk_at "at"); (case e => rfl))
  | ((with_reducible refine R.append (xs := ?xs) ?h ?e ?q); (case h => walk_at "at"); (case e => walk_at "cond"))
  | with_reducible refine R.is_ ?_ | with_reducible refine R.isnot ?_ | with_reducible refine R.andV ?_ | with_reducible refine R.orV ?_ | with_reducible refine R.notV ?_
  | ((with_reducible refine R.isi (s := ?s) (b := ?b) ?ty ?h ?q); (case ty => walk_at "ty"); (case h => walk_at "kit"))
  | ((with_reducible refine R.addS ?h ?q); (case h => walk_at "sz")) | with_reducible refine R.max2 ?_ | with_reducible refine R.min2 ?_
  | ((with_reducible refine R.lenStr ?h ?q); (case h => walk_at "szl")) | ((with_reducible refine R.ixS (n := ?n) ?h ?e ?q); (case h => walk_at "szl"); (case e => walk_at "ix"))
  | ((with_reducible refine R.tyl (xs := ?xs) ?h ?q); (case h => walk_at "at")) | with_reducible refine R.itlist ?_ | with_reducible refine R.ittup ?_ | with_reducible refine R.m1 ?_ | with_reducible refine R.m1s ?_ | with_reducible refine R.leS ?_ | with_reducible refine R.itstr ?_ | with_reducible refine R.itstrE ?_ | with_reducible refine R.lc ?_ | with_reducible refine R.for_ ?_ | ((with_reducible refine R.all_ (bs := ?bs) ?h ?q); (case h => walk_at "at"))
  | with_reducible refine R.rng1 ?_ | ((with_reducible refine R.rngE ?h ?q); (case h => (constructor <;> omega)))
  | ((with_reducible refine R.lenT (xs := ?xs) ?h ?q); (case h => walk_at "sqt")) | ((with_reducible refine R.ixT (xs := ?xs) (v := ?v) ?h ?e ?q); (case h => walk_at "sqt"); (case e => walk_at "ix"))
  | ((refine R.itlE (xs := ?xs) ?h ?q); (case h => walk_at "at")) | ((refine R.ittE (xs := ?xs) ?h ?q); (case h => walk_at "at"))
  | ((refine R.gseq (xs := ?xs) ?h ?e ?q); (case h => walk_at "sqa"); (case e => rfl)) | ((refine R.ixA (xs := ?xs) (v := ?v) ?h ?e ?q); (case h => walk_at "sqa"); (case e => walk_at "ix")) | ((refine R.lenA (xs := ?xs) ?h ?q); (case h => walk_at "sqa"))
  | ((with_reducible refine R.gtup (xs := ?xs) ?h ?e ?q); (case h => walk_at "sqt"); (case e => rfl))
  | with_reducible refine R.din_ ?_ | with_reducible refine R.dput_ ?_
  | with_reducible refine R.sfld ?_ | with_reducible refine R.fld_ ?_ | with_reducible refine R.dc ?_
  | with_reducible refine R.dget1_ ?_
  | with_reducible refine R.itseq ?_ | with_reducible refine R.itenum ?_
  | with_reducible refine R.itT ?_ | with_reducible refine R.itF ?_ | with_reducible refine R.itNT ?_ | with_reducible refine R.itNF ?_
  | (with_reducible refine R.tup ?_) | (with_reducible refine R.lst ?_))
local macro_rules | `(tactic| walk_at "rd") => `(tactic| (repeat (first | walk_at "r1" | (dsimp only [Int.reduceToNat, List.set_cons_succ, List.set_cons_zero, List.length_cons, List.length_nil, List.nil_append, List.cons_append, List.append_nil]))))
local macro_rules | `(tactic| walk_at "go") => `(tactic| (rw [R.start_eq]; dsimp only [R.startE, List.map_nil]; walk_at "rd"))
namespace L2
open PySem PySem.Spec PyProof.Rows
/-- isinstance of the caught error at a, whose class is D and whose own dict stands at d -/
def rIsE2 (K : PySem.W.Frag) (D a : Addr) (cls : Value) (d : Option Addr) : List V → Hp → VK → Prop := fun xs H Q => ∃ (c : V) (cv : Value) (b : Bool) (dd : Addr) (fs : List (Str × V)), xs = [.ref a, c] ∧ cls = .ref D ∧ d = some dd ∧ H dd = some (.xd fs) ∧
  (∀ u, RelV c u → u = cv) ∧ PySem.W.kitOne K (.ref D) cv = some b ∧ Q (.bl b) H
structure ExcD (K : PySem.W.Frag) (D : Addr) : Prop where
  cl : (PySem.W.clsIn K D).isSome = true
  ga : PySem.W.findIn K (.ref D) "__getattribute__" = some (some (.builtin "BaseException.__getattribute__"))
  gg : PySem.W.findIn K (.ref D) "__getattr__" = some none
  ex : PySem.W.subIn K (.ref D) (.type "BaseException") = some true
  ca : PySem.W.findIn K (.ref D) "__class__" = some (some (.builtin "object.__class__"))
  cn : PySem.W.specialIn K (.builtin "object.__class__") "__get__" = some (some (.builtin "getset_descriptor.__get__"))
  ct : PySem.W.takesIn K (.builtin "object.__class__") = some true
  cm : PySem.W.mroIn K D (.type "object") = some true
theorem call_isE2 {X : Cx} {a D : Addr} {oe : Obj} {cls : Value} {d : Option Addr} {pn : List (Addr × Obj)} (C : ExcD X.K D) (hz : Zc cls d oe) (hf : ∃ vs, oe.data = .fields vs) : CallR (X.suite a ((a, oe) :: pn)) (.builtin "isinstance") (rIsE2 X.K D a cls d) := by
  intro pins s σ H xs us Q I r h
  obtain ⟨c, cv, b, dd, fs, rfl, rfl, rfl, hdd, hcv, hkit, q⟩ := h
  obtain ⟨u1, u2, rfl, r1, r2⟩ := vals2 r
  cases r1
  have e2 := hcv _ r2
  subst e2
  obtain ⟨hget, _⟩ := I.pin (a, oe) (List.mem_append.mpr (.inl List.mem_cons_self))
  obtain ⟨vs, hv⟩ := hf
  have hx : ObjOk X.prog X.w H s.heap dd (.xd fs) := I.hok dd _ hdd
  obtain ⟨mA, hns, hr⟩ := hx
  obtain ⟨od, ho, hl⟩ := lookIn_ns hns
  have J : PySem.W.InstAt s.heap a oe D (some od) := ⟨hget, hz.1, by unfold PySem.W.notCls; rw [hv] <;> rfl, by rw [hz.2]; exact ho⟩
  exact PySem.W.kia_one (PySem.W.kitx_exc C.cl C.ga C.gg C.ex C.ca C.cn C.ct C.cm) I.kIn J hkit (fun z => nomatch z) fun tk => ⟨.bl b, H, I.kept (t' := tk) fun _ _ z => z, rfl, q⟩
/-- what a call may let out is wished for at any slots of the right number -/
theorem passLen {X : Cx} {W : WX} {n : Nat} (tk : Takes X W) (hn : X.N.length = n) : Passes (L2.CX X.prog X.w) X (fun cls d H => ∀ σ : St, σ.length = n → W cls d σ H) := fun pins σ H s e s' I c =>
  tk e s' (XE.of_call (W := W) I (fun _ _ _ h => h σ (by rw [← hn]; exact I.len)) c)
end L2
namespace KN
open PySem L2 SX R
open C8 (Cal Def cal0 pe_c pe_gc fnScope fnBody pss_cut)
section
variable {P : Program} {w : World} {K : PySem.W.Frag} {mg : Str → Option Value} {base : Heap}
abbrev sTold : Stmt := top 24
theorem scTold : FnScope ["simple", "multipliers", "e"] ["simple", "multipliers"] (fnScope sTold) := ⟨rfl, rfl, rfl, by decide +kernel, rfl, by decide +kernel, by decide +kernel⟩
structure TellK (K : PySem.W.Frag) (mg : Str → Option Value) (C CE : Addr) : Prop where
  d : ExcD K C
  x : XfC K C
  exm : PySem.W.exmOne K (.ref C) (.ref C) = some true
  gE : mg "SayError" = some (.ref CE)
  k1 : PySem.W.kitOne K (.ref C) (.ref CE) = some true
  k2 : PySem.W.kitOne K (.ref C) (.type "ValueError") = some true
  vE : mg "ValueError" = none
def spTold : Sp := fun vs H Q _ => ∃ (a c : Addr) (ds es : List (List V)), vs = [.ref a, .ref c] ∧ RowsIn H a ds ∧ RowsIn H c es ∧
  ((∃ p n r, Fault ds es p n r ∧ ∀ (t : Addr) (H' : Hp), Same H H' → H' t = some (.tup [p, n, r]) → Q (.ref t) H') ∨
   (∃ rs ms, ds = rs.map srV ∧ es = ms.map mrV ∧ GoodSys rs ms ∧ ∀ H' : Hp, Same H H' → Q .non H'))
/-- the suite, read -/
def tSuite (K : PySem.W.Frag) (C a : Addr) (cls : Value) (d : Option Addr) (CE : Addr) : TS :=
  tSeq (tIfS (tAnd (tB (tCB (rIsE2 K C a cls d) (tCons (tVar 2) (tCons (tC (.ref CE)) tNil)))) (tB (tCB (rIsE2 K C a cls d) (tCons (tVar 2) (tCons (tC (.ty "ValueError")) tNil)))))
      (tRet (tTup (tCons (tXf a cls d C "part" (tVar 2)) (tCons (tXf a cls d C "number" (tVar 2)) (tCons (tXf a cls d C "reason" (tVar 2)) tNil))))) tNext)
    (tRet (tTup (tCons (tC (.str "other")) (tCons (tC .non) (tCons (tC (.str "")) tNil)))))
theorem c_told (Z : Zs mg) {S C fI CE fS : Addr} {fdS : FuncData} (TB : BadK K mg C fI) (TT : TellK K mg C CE) (gS : mg "System" = some (.ref S)) (MS : Mk K S fS) (GS : FnOk P w K mg base (L2.CX P w) 4 fS fdS ["self", "simple", "multipliers"] (spSysI S C)) (bS : Binds K fdS ["self", "simple", "multipliers"] [])
    {f : Addr} {fd : FuncData} (F : Def K mg "_law_told" sTold f fd) (b : Binds K fd ["simple", "multipliers"] []) : Cal P w K mg base 6 "_law_told" spTold [] := by
  refine cal0 F b .nil scTold (fun vs H Q E h => ?_) (fun cdv A outer s H vs Q E hr h => ?_)
  · obtain ⟨a, c, ds, es, rfl, _⟩ := h
    rfl
  · obtain ⟨a, c, ds, es, rfl, hA, hC, h⟩ := h
    have hr5 : Room 5 _ := hr
    refine ⟨_, pss_cons (ps_try_as (i := 2) (c := .ref C) (tb := fun W => tDrop (tMake S (spSysI S C) [] (fun cls d H => ∀ σ : L2.St, σ.length = 3 → W cls d σ H) (tCons (tVar 0) (tCons (tVar 1) tNil)))) (ts := fun a cls d => tSuite K C a cls d CE) (Wout := fun _ _ _ _ => False)
        rfl rfl scTold.nd rfl rfl ⟨rfl, by decide, .inl TB.gC⟩ takes0
        (fun W pn xe tk _ => pss_one (ps_expr (pe_make MS GS hr5 rfl gS bS .nil (passLen tk rfl) (pa_cons (pv 0) (pa_cons (pv 1) pa_nil)))))
        (fun a oe cls d pn hz hf => pss_cons (ps_if (PW.pt (pw_and (pt_val (pe_callB (call_isE2 TT.d hz hf) (by rfl) Z.isinstance (by decide +kernel) (pa_cons (pv 2) (pa_cons (pe_gc (by rfl) ⟨_, TT.gE, rfl⟩) pa_nil))))
            (pw_and1 (pt_val (pe_callB (call_isE2 TT.d hz hf) (by rfl) Z.isinstance (by decide +kernel) (pa_cons (pv 2) (pa_cons (pe_bltn (v := .ty "ValueError") (by rfl) TT.vE (by decide +kernel) rfl) pa_nil)))))))
          (pss_one (ps_ret (pe_tup (pa_cons (pe_xf TT.x TB.nP hz hf (pv 2)) (pa_cons (pe_xf TT.x TB.nN hz hf (pv 2)) (pa_cons (pe_xf TT.x TB.nR hz hf (pv 2)) pa_nil)))))) pss_nil)
          (pss_one (ps_ret (pe_tup (pa_cons pe_str (pa_cons pe_non (pa_cons pe_str pa_nil)))))))) (pss_one (ps_ret pe_non)), ?_⟩
    walk_at "go"
    unfold tMake
    walk_at "rd"
    intro x dx hx hdx ndx
    have s0 : Same H (upd (upd H dx (.own x)) x (.ins S dx [])) := same_put (same_put (Same.refl H) hdx) hx
    refine ⟨x, dx, a, c, ds, es, rfl, upd_same, hA.same s0, hC.same s0, ?_⟩
    rcases h with ⟨p, n, r, hf, k⟩ | ⟨rs, ms, e1, e2, hg, k⟩
    · refine .inl ⟨p, n, r, hf, fun d H1 s1 hd1 σ1 hl1 => ⟨true, TT.exm, fun _ b hb => ?_, fun z => nomatch z⟩⟩
      have h2 : (σ1.set 2 (some (V.ref b)))[2]? = some (some (.ref b)) := by
        rw [List.getElem?_set_self (by omega)]
      have s01 := s0.trans s1
      generalize σ1.set 2 (some (V.ref b)) = σ2 at h2
      have asks : ∀ (cl : V) (cv : Value) (Q' : Bool → Hp → Prop), (∀ u, RelV cl u → u = cv) → PySem.W.kitOne K (.ref C) cv = some true → Q' true H1 → tB (tCB (rIsE2 K C b (.ref C) (some d)) (tCons (tVar 2) (tCons (tC cl) tNil))) σ2 H1 Q' := by
        intro cl cv Q' hcv hk q
        refine R.tb_ ?_
        refine R.cb ?_
        refine R.cons ?_
        refine R.var h2 ?_
        walk_at "rd"
        refine ⟨cl, cv, true, d, _, rfl, rfl, rfl, hd1, hcv, hk, ?_⟩
        exact ⟨true, rfl, q⟩
      have fld : ∀ (f : Str) (v : V) (Q' : VK), (badFs p n r).lookup f = some v → Q' v H1 → tXf b (.ref C) (some d) C f (tVar 2) σ2 H1 Q' := fun f v Q' hl q => ⟨_, h2, rfl, rfl, d, _, v, rfl, hd1, hl, q⟩
      unfold tSuite
      refine R.seq ?_
      refine R.ifs ?_
      refine R.and_ ?_
      refine asks _ _ _ (fun u hu => hu) TT.k1 ?_
      refine R.itT ?_
      refine asks _ _ _ (fun u hu => hu) TT.k2 ?_
      refine R.itT ?_
      refine R.ret ?_
      refine R.tup ?_
      refine R.cons ?_
      refine fld _ p _ rfl ?_
      refine R.cons ?_
      refine fld _ n _ rfl ?_
      refine R.cons ?_
      refine fld _ r _ rfl ?_
      refine R.nil ?_
      refine ⟨by show 3 ≤ sizeLine; decide, fun t ht => ?_⟩
      exact k t _ (same_new s01 ht) upd_same
    · refine .inr ⟨rs, ms, e1, e2, hg, fun H1 s1 hS => ⟨rfl, ?_⟩⟩
      walk_at "rd"
      refine k _ (fun b o hb => s1 b o (ne_of_none hb hx) (s0 _ _ hb))
end
end KN
end
section
set_option Elab.async false
set_option linter.all false
set_option maxRecDepth 100000
set_option maxHeartbeats 4000000
set_option pp.maxSteps 1500
set_option pp.deepTerms false
local macro_rules | `(tactic| walk_at "ne") => `(tactic| first
  | assumption | (apply Ne.symm; assumption)
  | exact R.ne_new (by assumption) | exact (R.ne_new (by assumption)).symm
  | exact L2.ne_of_none (by assumption) (by assumption) | exact (L2.ne_of_none (by assumption) (by assumption)).symm
  | exact L2.ne_of_none (by assumption) (R.free_new (by assumption)) | exact (L2.ne_of_none (by assumption) (R.free_new (by assumption))).symm)
local macro_rules | `(tactic| walk_at "at") => `(tactic| first
  | assumption | exact L2.upd_same
  | (refine R.sb (H := ?H) (p := ?p) ?e ?n ?h; (case e => assumption); (case n => walk_at "ne"); (case h => walk_at "at"))
  | (refine R.sm (H := ?H) ?e ?h; (case e => assumption); (case h => walk_at "at"))
  | (refine Eq.trans (L2.upd_ne ?_) ?_ <;> first | walk_at "ne" | walk_at "at"))
local macro_rules | `(tactic| walk_at "sqt") => `(tactic| first | assumption | (refine L2.SqT.of ?_; walk_at "at"))
local macro_rules | `(tactic| walk_at "ty") => `(tactic| first | exact R.tyN | exact R.tyB | exact R.tyI | exact R.tyS | (refine R.tyT (xs := ?xs) ?h; case h => walk_at "at") | (refine R.tyL (xs := ?xs) ?h; case h => walk_at "at"))
local macro_rules | `(tactic| walk_at "kit") => `(tactic| first | exact R.kit_NoneType_tuple | exact R.kit_NoneType_list | exact R.kit_NoneType_bool | exact R.kit_NoneType_str | exact R.kit_NoneType_int | exact R.kit_bool_tuple | exact R.kit_bool_list | exact R.kit_bool_bool | exact R.kit_bool_str | exact R.kit_bool_int | exact R.kit_int_tuple | exact R.kit_int_list | exact R.kit_int_bool | exact R.kit_int_str | exact R.kit_int_int | exact R.kit_str_tuple | exact R.kit_str_list | exact R.kit_str_bool | exact R.kit_str_str | exact R.kit_str_int | exact R.kit_tuple_tuple | exact R.kit_tuple_list | exact R.kit_tuple_bool | exact R.kit_tuple_str | exact R.kit_tuple_int | exact R.kit_list_tuple | exact R.kit_list_list | exact R.kit_list_bool | exact R.kit_list_str | exact R.kit_list_int)
local macro_rules | `(tactic| walk_at "sz") => `(tactic| first | assumption | (refine Nat.le_trans ?_ (show 1000 ≤ PySem.sizeLine by decide); omega) | decide)
local macro_rules | `(tactic| walk_at "szl") => `(tactic| first | assumption | exact Nat.le_of_lt (L2.small1000 (by omega)) | decide | decide +kernel)
local macro_rules | `(tactic| walk_at "sqa") => `(tactic| first | assumption | exact R.SeqA.same (by assumption) (by assumption) | exact R.SeqA.new (by assumption) (by assumption) | (exact Or.inl (by walk_at "at")) | (exact Or.inr (by walk_at "at")))
local macro_rules | `(tactic| walk_at "ix") => `(tactic| first | rfl | (exact L2.atI_nat (by assumption)) | assumption)
local macro_rules | `(tactic| walk_at "cond") => `(tactic| first
  | exact Or.inl (by decide) | exact Or.inr (by decide) | exact Or.inl ⟨by omega, by omega⟩ | exact Or.inr ⟨by omega, by omega⟩
  | (constructor <;> omega) | (show _ ≠ _; omega) | decide | omega)
local macro_rules | `(tactic| walk_at "r1") => `(tactic| first
  | with_reducible refine R.seq ?_ | with_reducible refine R.asg ?_ | with_reducible refine R.ifs ?_ | with_reducible refine R.ret ?_ | with_reducible refine R.retN ?_ | with_reducible refine R.drop ?_ | with_reducible refine R.next ?_
  | with_reducible refine R.op ?_ | ((with_reducible refine R.var (v := ?v) ?h ?q); case h => rfl) | with_reducible refine R.c ?_ | with_reducible refine R.tst ?_ | with_reducible refine R.tb_ ?_ | with_reducible refine R.ex ?_
  | with_reducible refine R.i0 ?_ | with_reducible refine R.eqI ?_ | with_reducible refine R.neI ?_ | ((with_reducible refine R.ic ?_ ?_); · walk_at "cond") | with_reducible refine R.u0 ?_ | with_reducible refine R.un ?_
  | ((with_reducible refine R.eq ?_ ?_); · rfl) | ((with_reducible refine R.ne ?_ ?_); · rfl)
  | with_reducible refine R.and_ ?_ | with_reducible refine R.or_ ?_ | with_reducible refine R.not_ ?_ | with_reducible refine R.ife ?_ | with_reducible refine R.chain ?_
  | with_reducible refine R.cons ?_ | with_reducible refine R.nil ?_ | with_reducible refine R.call ?_ | with_reducible refine R.cb ?_ | with_reducible refine R.bm ?_
  | with_reducible refine R.gname ?_ | with_reducible refine R.gsub ?_ | with_reducible refine R.gnil ?_ | with_reducible refine R.gcons ?_ | with_reducible refine R.yes ?_
  | with_reducible refine R.int1 ?_ | ((with_reducible refine R.lenL (xs := ?xs) ?h ?q); case h => walk_at "at")
  | ((with_reducible refine R.ixL (xs := ?xs) (v := ?v) ?h ?e ?q); (case h => walk_at "at"); (case e => walk_at "ix"))
  | ((with_reducible refine R.setL (xs := ?xs) (n := ?n) ?h ?e ?q); (case h => walk_at "at"); (case e => rfl))
  | ((with_reducible refine R.append (xs := ?xs) ?h ?e ?q); (case h => walk_at "at"); (case e => walk_at "cond"))
  | with_reducible refine R.is_ ?_ | with_reducible refine R.isnot ?_ | with_reducible refine R.andV ?_ | with_reducible refine R.orV ?_ | with_reducible refine R.notV ?_
  | ((with_reducible refine R.isi (s := ?s) (b := ?b) ?ty ?h ?q); (case ty => walk_at "ty"); (case h => walk_at "kit"))
  | ((with_reducible refine R.addS ?h ?q); (case h => walk_at "sz")) | with_reducible refine R.max2 ?_ | with_reducible refine R.min2 ?_
  | ((with_reducible refine R.lenStr ?h ?q); (case h => walk_at "szl")) | ((with_reducible refine R.ixS (n := ?n) ?h ?e ?q); (case h => walk_at "szl"); (case e => walk_at "ix"))
  | ((with_reducible refine R.tyl (xs := ?xs) ?h ?q); (case h => walk_at "at")) | with_reducible refine R.itlist ?_ | with_reducible refine R.ittup ?_ | with_reducible refine R.m1 ?_ | with_reducible refine R.m1s ?_ | with_reducible refine R.leS ?_ | with_reducible refine R.itstr ?_ | with_reducible refine R.itstrE ?_ | with_reducible refine R.lc ?_ | with_reducible refine R.for_ ?_ | ((with_reducible refine R.all_ (bs := ?bs) ?h ?q); (case h => walk_at "at"))
  | with_reducible refine R.rng1 ?_ | ((with_reducible refine R.rngE ?h ?q); (case h => (constructor <;> omega)))
  | ((with_reducible refine R.lenT (xs := ?xs) ?h ?q); (case h => walk_at "sqt")) | ((with_reducible refine R.ixT (xs := ?xs) (v := ?v) ?h ?e ?q); (case h => walk_at "sqt"); (case e => walk_at "ix"))
  | ((refine R.itlE (xs := ?xs) ?h ?q); (case h => walk_at "at")) | ((refine R.ittE (xs := ?xs) ?h ?q); (case h => walk_at "at"))
  | ((refine R.gseq (xs := ?xs) ?h ?e ?q); (case h => walk_at "sqa"); (case e => rfl)) | ((refine R.ixA (xs := ?xs) (v := ?v) ?h ?e ?q); (case h => walk_at "sqa"); (case e => walk_at "ix")) | ((refine R.lenA (xs := ?xs) ?h ?q); (case h => walk_at "sqa"))
  | ((with_reducible refine R.gtup (xs := ?xs) ?h ?e ?q); (case h => walk_at "sqt"); (case e => rfl))
  | with_reducible refine R.din_ ?_ | with_reducible refine R.dput_ ?_
  | with_reducible refine R.sfld ?_ | with_reducible refine R.fld_ ?_ | with_reducible refine R.dc ?_
  | with_reducible refine R.dget1_ ?_
  | with_reducible refine R.itseq ?_ | with_reducible refine R.itenum ?_
  | with_reducible refine R.itT ?_ | with_reducible refine R.itF ?_ | with_reducible refine R.itNT ?_ | with_reducible refine R.itNF ?_
  | (with_reducible refine R.tup ?_) | (with_reducible refine R.lst ?_))
local macro_rules | `(tactic| walk_at "rd") => `(tactic| (repeat (first | walk_at "r1" | (dsimp only [Int.reduceToNat, List.set_cons_succ, List.set_cons_zero, List.length_cons, List.length_nil, List.nil_append, List.cons_append, List.append_nil]))))
local macro_rules | `(tactic| walk_at "go") => `(tactic| (rw [R.start_eq]; dsimp only [R.startE, List.map_nil]; walk_at "rd"))
namespace R
open PySem L2
mutual
/-- the value is this data, of tuples -/
inductive Td (H : Hp) : V → PyData → Prop
  | non : Td H .non .none
  | bl (b : Bool) : Td H (.bl b) (.bool b)
  | int (i : Int) : Td H (.int i) (.int i)
  | str (z : Str) : Td H (.str z) (.str z)
  | tup {a : Addr} {xs : List V} {ds : List PyData} : H a = some (.tup xs) → Tds H xs ds → Td H (.ref a) (.tuple ds)
inductive Tds (H : Hp) : List V → List PyData → Prop
  | nil : Tds H [] []
  | cons {v : V} {vs : List V} {d : PyData} {ds : List PyData} : Td H v d → Tds H vs ds → Tds H (v :: vs) (d :: ds)
end
mutual
theorem Td.keep {H H' : Hp} (s : ∀ a d, H a = some (.tup d) → H' a = some (.tup d)) : ∀ {v d}, Td H v d → Td H' v d
  | _, _, .non => .non
  | _, _, .bl b => .bl b
  | _, _, .int i => .int i
  | _, _, .str z => .str z
  | _, _, .tup h t => .tup (s _ _ h) (Tds.keep s t)
theorem Tds.keep {H H' : Hp} (s : ∀ a d, H a = some (.tup d) → H' a = some (.tup d)) : ∀ {vs ds}, Tds H vs ds → Tds H' vs ds
  | _, _, .nil => .nil
  | _, _, .cons h t => .cons (Td.keep s h) (Tds.keep s t)
end
theorem Tds.app {H : Hp} : ∀ {vs ds us es}, Tds H vs ds → Tds H us es → Tds H (vs ++ us) (ds ++ es)
  | _, _, _, _, .nil, h => h
  | _, _, _, _, .cons a t, h => .cons a (Tds.app t h)
theorem Tds.len {H : Hp} : ∀ {vs ds}, Tds H vs ds → vs.length = ds.length
  | _, _, .nil => rfl
  | _, _, .cons _ t => by rw [List.length_cons, List.length_cons, Tds.len t]
theorem Tds.get {H : Hp} : ∀ {vs ds}, Tds H vs ds → ∀ (i : Nat) (d : PyData), ds[i]? = some d → ∃ v, vs[i]? = some v ∧ Td H v d
  | _, _, .nil, i, d, h => by simp at h
  | _, _, .cons a t, 0, d, h => by cases h; exact ⟨_, rfl, a⟩
  | _, _, .cons a t, i + 1, d, h => Tds.get t i d h
/-- what evaluates to this data, whatever stands -/
def EvD (te : TE) (σ : L2.St) (d : PyData) : Prop := ∀ (H : Hp) (Q : VK), (∀ v H', Same H H' → Td H' v d → Q v H') → te σ H Q
def EvDs (ta : TA) (σ : L2.St) (ds : List PyData) : Prop := ∀ (H : Hp) (Q : List V → Hp → Prop), (∀ vs H', Same H H' → Tds H' vs ds → Q vs H') → ta σ H Q
section
variable {σ : L2.St} {te : TE} {ta : TA} {d : PyData} {ds : List PyData}
theorem ed_i {i : Int} : EvD (tC (.int i)) σ (.int i) := fun H Q q => q _ H (Same.refl H) (.int i)
theorem ed_s {z : Str} : EvD (tC (.str z)) σ (.str z) := fun H Q q => q _ H (Same.refl H) (.str z)
theorem ed_b {b : Bool} : EvD (tC (.bl b)) σ (.bool b) := fun H Q q => q _ H (Same.refl H) (.bl b)
theorem ed_n : EvD (tC .non) σ .none := fun H Q q => q _ H (Same.refl H) .non
theorem ed_neg {i : Int} : EvD (tUn (rU fun i => .int (-i)) (tC (.int i))) σ (.int (-i)) := fun H Q q => ⟨i, rfl, q _ H (Same.refl H) (.int (-i))⟩
theorem ed_pow {i j : Int} (h : CPow i j) : EvD (tOp (rI CPow fun i j => .int (i ^ j.toNat)) (tC (.int i)) (tC (.int j))) σ (.int (i ^ j.toNat)) := fun H Q q => ⟨i, j, rfl, rfl, h, q _ H (Same.refl H) (.int _)⟩
theorem es_nil : EvDs tNil σ [] := fun H Q q => q _ H (Same.refl H) .nil
theorem es_cons (h : EvD te σ d) (t : EvDs ta σ ds) : EvDs (tCons te ta) σ (d :: ds) := fun H Q q => h H _ fun v H1 s1 d1 => t H1 _ fun vs H2 s2 d2 => q _ H2 (s1.trans s2) (.cons (d1.keep fun a d h => s2 _ _ h) d2)
theorem ed_tup (t : EvDs ta σ ds) (hl : ds.length ≤ sizeLine := by decide) : EvD (tTup ta) σ (.tuple ds) := fun H Q q => t H _ fun vs H1 s1 d1 => ⟨by rw [d1.len]; exact hl, fun p hp => q _ _ (same_new s1 hp) (.tup upd_same (d1.keep fun a d h => by rw [upd_ne (ne_of_none h hp)]; exact h))⟩
theorem ed_lst {H : Hp} {Q : VK} (t : EvDs ta σ ds) (q : ∀ p vs H', Same H H' → H p = none → H' p = some (.lst vs) → Tds H' vs ds → Q (.ref p) H') (hl : ds.length ≤ sizeLine := by decide) : tLst ta σ H Q :=
  t H _ fun vs H1 s1 d1 => ⟨by rw [d1.len]; exact hl, fun p hp => q p vs _ (same_new s1 hp) (s1.free hp) upd_same (d1.keep fun a d h => by rw [upd_ne (ne_of_none h hp)]; exact h)⟩
end
end R
local macro_rules | `(tactic| walk_at "ed") => `(tactic| (repeat (first | exact R.es_nil | exact R.ed_i | exact R.ed_s | exact R.ed_b | exact R.ed_n | exact R.ed_neg | exact R.ed_pow ⟨by decide, by decide, by decide⟩ | with_reducible refine R.es_cons ?_ ?_ | with_reducible refine R.ed_tup ?_)))
namespace KN
open PySem L2 SX R
open C8 (Cal Def cal0 pe_c pe_gc fnScope fnBody pss_cut)
section
variable {P : Program} {w : World} {K : PySem.W.Frag} {mg : Str → Option Value} {base : Heap}
abbrev sBads : Stmt := top 25
theorem scBads : FnScope ["pool", "simple", "at", "rows", "wrong", "reason"] ["pool", "simple"] (fnScope sBads) := ⟨rfl, rfl, rfl, by decide +kernel, rfl, by decide +kernel, by decide +kernel⟩
abbrev sBadm : Stmt := top 26
theorem scBadm : FnScope ["pool", "multipliers", "at", "rows", "wrong", "reason"] ["pool", "multipliers"] (fnScope sBadm) := ⟨rfl, rfl, rfl, by decide +kernel, rfl, by decide +kernel, by decide +kernel⟩
abbrev rowD (r : List PyData) (z : Str) : PyData := .tuple [.tuple r, .str z]
abbrev sTab1 : List PyData := [rowD [] "length", rowD [.str "a"] "length", rowD [.str "a", .int 1, .int 2] "length", rowD [.str "", .int 1] "word", rowD [.str "A", .int 1] "word"]
abbrev sTab2 : List PyData := [rowD [.str "abcdefghi", .int 1] "word", rowD [.str "a b", .int 1] "word", rowD [.str "zz9", .int 0] "word", rowD [.str "zzz", .int 0] "value"]
abbrev sTab3 : List PyData := [rowD [.str "zzz", .int 100001] "value", rowD [.str "zzz", .int (-1)] "value", rowD [.str "zzz", .int (10 ^ (9 : Int).toNat)] "value"]
/-- the rows of the table, in one: each is wrong, for the reason that stands with it -/
theorem sTab_ok : ∀ (k : Nat) (d : PyData), (sTab1 ++ sTab2 ++ sTab3)[k]? = some d → ∃ r z, d = rowD r z ∧ ∀ (H : Hp) (vs : List V), Tds H vs r → SShape vs ∧ sF vs = some z := by
  intro k d h
  have two : ∀ (x : Str) (i : Int) (z : Str), x.length ≤ 1000 → sfc x i = some z → ∃ r z', rowD [.str x, .int i] z = rowD r z' ∧ ∀ (H : Hp) (vs : List V), Tds H vs r → SShape vs ∧ sF vs = some z' := fun x i z hx hz => ⟨_, _, rfl, fun H vs hv => by
    cases hv with
    | cons a t => cases a; cases t with
      | cons a t => cases a; cases t; exact ⟨.yes _ _ hx, hz⟩⟩
  have other : ∀ (r : List PyData) (hr : r.length ≠ 2), ∃ r' z', rowD r "length" = rowD r' z' ∧ ∀ (H : Hp) (vs : List V), Tds H vs r' → SShape vs ∧ sF vs = some z' := fun r hr => ⟨_, _, rfl, fun H vs hv => by
    have e : vs.length ≠ 2 := by rw [hv.len]; exact hr
    refine ⟨.no e, ?_⟩
    unfold sF
    split
    · exact absurd rfl e
    · rfl⟩
  match k, h with
  | 0, h => cases h; exact other _ (by decide)
  | 1, h => cases h; exact other _ (by show 1 ≠ 2; decide)
  | 2, h => cases h; exact other _ (by show 3 ≠ 2; decide)
  | 3, h => cases h; exact two _ _ _ (by decide +kernel) (by decide +kernel)
  | 4, h => cases h; exact two _ _ _ (by decide +kernel) (by decide +kernel)
  | 5, h => cases h; exact two _ _ _ (by decide +kernel) (by decide +kernel)
  | 6, h => cases h; exact two _ _ _ (by decide +kernel) (by decide +kernel)
  | 7, h => cases h; exact two _ _ _ (by decide +kernel) (by decide +kernel)
  | 8, h => cases h; exact two _ _ _ (by decide +kernel) (by decide +kernel)
  | 9, h => cases h; exact two _ _ _ (by decide +kernel) (by decide +kernel)
  | 10, h => cases h; exact two _ _ _ (by decide +kernel) (by decide +kernel)
  | 11, h => cases h; exact two _ _ _ (by decide +kernel) (by decide +kernel)
  | n + 12, h => cases h
theorem cut_to (xs : List V) {j : Int} (h0 : 0 ≤ j) (h1 : j ≤ xs.length) : cutV xs none (some j) = xs.take j.toNat := by
  unfold cutV
  have e0 : HT.sIx xs.length 0 none = 0 := rfl
  have e1 : HT.sIx xs.length xs.length (some j) = j.toNat := by
    show (if j < 0 then (j + (xs.length : Int)).toNat else min j.toNat xs.length) = _
    rw [if_neg (by omega)]; omega
  rw [e0, e1, List.drop_zero, Nat.sub_zero]
theorem cut_from (xs : List V) {j : Int} (h0 : 0 ≤ j) (h1 : j ≤ xs.length) : cutV xs (some j) none = xs.drop j.toNat := by
  unfold cutV
  have e0 : HT.sIx xs.length xs.length none = xs.length := rfl
  have e1 : HT.sIx xs.length 0 (some j) = j.toNat := by
    show (if j < 0 then (j + (xs.length : Int)).toNat else min j.toNat xs.length) = _
    rw [if_neg (by omega)]; omega
  have e0' : HT.sIx xs.length xs.length none = xs.length := rfl
  rw [e0, e1]
  exact List.take_of_length_le (by rw [List.length_drop]; omega)
theorem TupsAt.take {H : Hp} : ∀ {xs ds}, TupsAt H xs ds → ∀ n, TupsAt H (xs.take n) (ds.take n)
  | _, _, .nil, n => by rw [List.take_nil, List.take_nil]; exact .nil
  | _, _, .cons h t, 0 => .nil
  | _, _, .cons h t, n + 1 => .cons h (TupsAt.take t n)
theorem TupsAt.drop {H : Hp} : ∀ {xs ds}, TupsAt H xs ds → ∀ n, TupsAt H (xs.drop n) (ds.drop n)
  | _, _, .nil, n => by rw [List.drop_nil, List.drop_nil]; exact .nil
  | _, _, .cons h t, 0 => .cons h t
  | _, _, .cons h t, n + 1 => TupsAt.drop t n
theorem TupsAt.cat {H : Hp} : ∀ {xs ds ys es}, TupsAt H xs ds → TupsAt H ys es → TupsAt H (xs ++ ys) (ds ++ es)
  | _, _, _, _, .nil, h => h
  | _, _, _, _, .cons a t, h => .cons a (TupsAt.cat t h)
theorem slL {H : Hp} {a : Addr} {xs : List V} {lo hi : Option Int} {Q : VK} {K : PySem.W.Frag} (h : H a = some (.lst xs)) (q : ∀ p, H p = none → Q (.ref p) (upd H p (.lst (cutV xs lo hi)))) : rSlL K (.ref a) lo hi H Q := ⟨a, xs, rfl, SqL.of h, q⟩
theorem sl_ {r : V → Option Int → Option Int → Hp → VK → Prop} {te : TE} {tl th : TO} {σ : L2.St} {H : Hp} {Q : VK} (q : te σ H fun x H1 => tl σ H1 fun l H2 => th σ H2 fun u H3 => r x l u H3 Q) : tSl r te tl th σ H Q := q
theorem np_ {σ : L2.St} {H : Hp} {QO : Option Int → Hp → Prop} (q : QO none H) : tNoPart σ H QO := q
theorem pt_ {te : TE} {σ : L2.St} {H : Hp} {QO : Option Int → Hp → Prop} (q : te σ H fun x H1 => ∃ i, x = .int i ∧ QO (some i) H1) : tPart te σ H QO := q
/-- a wrong row at the j-th place -/
def BadAt (H : Hp) (s u : Addr) (ds : List (List V)) (j : Nat) (bad : List V) (z : Str) : Prop := j ≤ ds.length ∧ H u = some (.tup [.int (j : Nat), .str z]) ∧ (∃ xs, H s = some (.lst xs) ∧ TupsAt H xs (ds.take j ++ [bad] ++ ds.drop j))
def spBads : Sp := fun vs H Q _ => ∃ (p l s : Addr) (xs : List V) (ds : List (List V)), vs = [.ref p, .ref s] ∧ PoolAt H p l ∧ H s = some (.lst xs) ∧ s ≠ p ∧ TupsAt H xs ds ∧ ds.length ≤ 24 ∧
  ∀ (H' : Hp) (t s' u : Addr) (j : Nat) (bad : List V) (z : Str), SameBut p H H' → PoolAt H' p l → H' t = some (.tup [.ref s', .ref u]) → SShape bad → sF bad = some z → BadAt H' s' u ds j bad z → Q (.ref t) H'
theorem c_bad_simple (Z : Zs mg) (c_take : Cal P w K mg base 2 "_law_take" spTake []) {f : Addr} {fd : FuncData} (F : Def K mg "_law_bad_simple" sBads f fd) (b : Binds K fd ["pool", "simple"] []) : Cal P w K mg base 3 "_law_bad_simple" spBads [] := by
  refine cal0 F b .nil scBads (fun vs H Q E h => ?_) (fun cdv A outer s H vs Q E hr h => ?_)
  · obtain ⟨p, l, s, xs, ds, rfl, _⟩ := h
    rfl
  · obtain ⟨p, l, s, xs, ds, rfl, hP, hs, sp, hts, hrl, k⟩ := h
    refine ⟨_, pss_cons (ps_set (i := 2) scBads.nd rfl (Or.inl rfl) (pe_c c_take hr (by omega) (by rfl) (pa_cons (pv 0) (pa_cons (pe_op op_add (pe_callB (kLen K) (by rfl) Z.len PySem.boot_len (pa_cons (pv 1) pa_nil)) pe_int) pa_nil))))
      (pss_cons (ps_set (i := 3) scBads.nd rfl (Or.inl rfl) (pe_lst (pa_cons (pe_tup (pa_cons (pe_tup pa_nil) (pa_cons pe_str pa_nil))) (pa_cons (pe_tup (pa_cons (pe_tup (pa_cons pe_str pa_nil)) (pa_cons pe_str pa_nil))) (pa_cons (pe_tup (pa_cons (pe_tup (pa_cons pe_str (pa_cons pe_int (pa_cons pe_int pa_nil)))) (pa_cons pe_str pa_nil))) (pa_cons (pe_tup (pa_cons (pe_tup (pa_cons pe_str (pa_cons pe_int pa_nil))) (pa_cons pe_str pa_nil))) (pa_cons (pe_tup (pa_cons (pe_tup (pa_cons pe_str (pa_cons pe_int pa_nil))) (pa_cons pe_str pa_nil))) pa_nil)))))))
      (pss_cons (ps_set (i := 3) scBads.nd rfl (Or.inl rfl) (pe_op op_cat (pv 3) (pe_lst (pa_cons (pe_tup (pa_cons (pe_tup (pa_cons pe_str (pa_cons pe_int pa_nil))) (pa_cons pe_str pa_nil))) (pa_cons (pe_tup (pa_cons (pe_tup (pa_cons pe_str (pa_cons pe_int pa_nil))) (pa_cons pe_str pa_nil))) (pa_cons (pe_tup (pa_cons (pe_tup (pa_cons pe_str (pa_cons pe_int pa_nil))) (pa_cons pe_str pa_nil))) (pa_cons (pe_tup (pa_cons (pe_tup (pa_cons pe_str (pa_cons pe_int pa_nil))) (pa_cons pe_str pa_nil))) pa_nil)))))))
      (pss_cons (ps_set (i := 3) scBads.nd rfl (Or.inl rfl) (pe_op op_cat (pv 3) (pe_lst (pa_cons (pe_tup (pa_cons (pe_tup (pa_cons pe_str (pa_cons pe_int pa_nil))) (pa_cons pe_str pa_nil))) (pa_cons (pe_tup (pa_cons (pe_tup (pa_cons pe_str (pa_cons (pe_un un_neg pe_int) pa_nil))) (pa_cons pe_str pa_nil))) (pa_cons (pe_tup (pa_cons (pe_tup (pa_cons pe_str (pa_cons (pe_op op_pow pe_int pe_int) pa_nil))) (pa_cons pe_str pa_nil))) pa_nil))))))
      (pss_cons (ps_asg (pe_ix (kIxL K) (pv 3) (pe_c c_take hr (by omega) (by rfl) (pa_cons (pv 0) (pa_cons (pe_callB (kLen K) (by rfl) Z.len PySem.boot_len (pa_cons (pv 3) pa_nil)) pa_nil))) (fun _ _ => rfl)) (kgTup K (n := 2) rfl (pgs_cons (pg_name (i := 4) scBads.nd rfl (Or.inl rfl)) (pgs_cons (pg_name (i := 5) scBads.nd rfl (Or.inl rfl)) pgs_nil))))
      (pss_one (ps_ret (pe_tup (pa_cons (pe_op op_cat (pe_op op_cat (pe_slice (kSlL K) (pv 1) po_none (po_some (pv 2))) (pe_lst (pa_cons (pv 4) pa_nil))) (pe_slice (kSlL K) (pv 1) (po_some (pv 2)) po_none)) (pa_cons (pe_tup (pa_cons (pv 2) (pa_cons (pv 5) pa_nil))) pa_nil))))))))), ?_⟩
    have lx : xs.length = ds.length := hts.len
    walk_at "go"
    refine r_take' hP (by omega) (by omega) (fun H1 j e1 P1 j0 j1 => ?_)
    refine R.gname ?_
    dsimp only [List.set_cons_succ, List.set_cons_zero, List.map_nil]
    refine R.seq ?_
    refine R.asg ?_
    refine R.ed_lst (ds := sTab1) (by walk_at "ed") (fun q1 vs1 H2 s2 hq0 hq1 t1 => ?_)
    refine R.gname ?_
    dsimp only [List.set_cons_succ, List.set_cons_zero, List.map_nil]
    refine R.seq ?_
    refine R.asg ?_
    refine R.op ?_
    refine R.var rfl ?_
    refine R.ed_lst (ds := sTab2) (by walk_at "ed") (fun q2 vs2 H3 s3 hq02 hq2 t2 => ?_)
    refine catL (s3 _ _ hq1) hq2 (by rw [t1.len, t2.len]; decide) fun q3 hq3 => ?_
    have s4 : Same H3 (upd H3 q3 (.lst (vs1 ++ vs2))) := same_new (Same.refl _) hq3
    have g3 : upd H3 q3 (.lst (vs1 ++ vs2)) q3 = some (.lst (vs1 ++ vs2)) := upd_same
    have t12 : Tds (upd H3 q3 (.lst (vs1 ++ vs2))) (vs1 ++ vs2) (sTab1 ++ sTab2) := ((t1.keep fun a d h => s3 _ _ h).app t2).keep fun a d h => s4 _ _ h
    generalize upd H3 q3 (.lst (vs1 ++ vs2)) = H4 at s4 g3 t12
    refine R.gname ?_
    dsimp only [List.set_cons_succ, List.set_cons_zero, List.map_nil]
    refine R.seq ?_
    refine R.asg ?_
    refine R.op ?_
    refine R.var rfl ?_
    refine R.ed_lst (ds := sTab3) (by walk_at "ed") (fun q4 vs3 H5 s5 hq04 hq4 t3 => ?_)
    refine catL (s5 _ _ g3) hq4 (by rw [t12.len, t3.len]; decide) fun q5 hq5 => ?_
    obtain ⟨hsp5, _⟩ := (P1.same (((s2.trans s3).trans s4).trans s5)).nep hq5
    have s6 : Same H5 (upd H5 q5 (.lst (vs1 ++ vs2 ++ vs3))) := same_new (Same.refl _) hq5
    have g5 : upd H5 q5 (.lst (vs1 ++ vs2 ++ vs3)) q5 = some (.lst (vs1 ++ vs2 ++ vs3)) := upd_same
    have t123 : Tds (upd H5 q5 (.lst (vs1 ++ vs2 ++ vs3))) (vs1 ++ vs2 ++ vs3) (sTab1 ++ sTab2 ++ sTab3) := ((t12.keep fun a d h => s5 _ _ h).app t3).keep fun a d h => s6 _ _ h
    generalize upd H5 q5 (.lst (vs1 ++ vs2 ++ vs3)) = H6 at s6 g5 t123
    have s16 : Same H1 H6 := (((s2.trans s3).trans s4).trans s5).trans s6
    have P6 := P1.same s16
    have hl12 : (vs1 ++ vs2 ++ vs3).length = 12 := by rw [t123.len]; rfl
    walk_at "rd"
    rw [hl12]
    refine r_take' P6 (by decide) (by decide) (fun H7 d7 e7 P7 l7 u7 => ?_)
    have g7 := e7 _ _ hsp5 g5
    have t7 : Tds H7 (vs1 ++ vs2 ++ vs3) (sTab1 ++ sTab2 ++ sTab3) := t123.keep (keep_pool P6 e7)
    have hk : ∃ d, (sTab1 ++ sTab2 ++ sTab3)[d7.toNat]? = some d := ⟨_, List.getElem?_eq_getElem (by show d7.toNat < 12; omega)⟩
    obtain ⟨dd, hdd⟩ := hk
    obtain ⟨r, z, rfl, hok⟩ := sTab_ok _ _ hdd
    obtain ⟨v, hv, htv⟩ := t7.get _ _ hdd
    have eat : atI (vs1 ++ vs2 ++ vs3) d7 = some v := atI_mid l7 hv
    cases htv with
    | @tup a7 ws7 _ ha7 hws7 =>
      cases hws7 with
      | cons hw1 hw2 =>
        cases hw2 with
        | cons hz hn =>
          cases hn
          cases hz
          cases hw1 with
          | @tup b7 bad _ hb7 hbad =>
            obtain ⟨hsh, hsf⟩ := hok H7 bad hbad
            refine R.ixL g7 eat ?_
            refine R.gtup (SqT.of ha7) rfl ?_
            refine R.gcons ?_
            refine R.gname ?_
            refine R.gcons ?_
            refine R.gname ?_
            refine R.gnil ?_
            dsimp only [List.set_cons_succ, List.set_cons_zero, List.map_nil]
            have s7 := e7 _ _ sp (s16 _ _ (e1 _ _ sp hs))
            have ht7 : TupsAt H7 xs ds := ((hts.keep (keep_pool hP e1)).keep fun a d h => s16 _ _ h).keep (keep_pool P6 e7)
            obtain ⟨jn, rfl⟩ : ∃ n : Nat, j = (n : Int) := ⟨j.toNat, by omega⟩
            have hjl : jn ≤ xs.length := by omega
            refine R.ret ?_
            refine R.tup ?_
            refine R.cons ?_
            refine R.op ?_
            refine R.op ?_
            refine sl_ ?_
            refine R.var rfl ?_
            refine np_ ?_
            refine pt_ ?_
            refine R.var rfl ?_
            refine ⟨_, rfl, ?_⟩
            refine slL s7 fun a1 ha1 => ?_
            rw [cut_to xs (by omega) (by omega), Int.toNat_natCast]
            have b1 : Same H7 (upd H7 a1 (.lst (xs.take jn))) := same_new (Same.refl _) ha1
            have c1 : upd H7 a1 (.lst (xs.take jn)) a1 = some (.lst (xs.take jn)) := upd_same
            generalize upd H7 a1 (.lst (xs.take jn)) = G1 at b1 c1
            walk_at "rd"
            refine ⟨by decide, fun a2 ha2 => ?_⟩
            have b2 : Same G1 (upd G1 a2 (.lst [.ref b7])) := same_new (Same.refl _) ha2
            have c2 : upd G1 a2 (.lst [V.ref b7]) a2 = some (.lst [.ref b7]) := upd_same
            generalize upd G1 a2 (.lst [V.ref b7]) = G2 at b2 c2
            refine catL (b2 _ _ c1) c2 (Nat.le_of_lt (small1000 (by rw [List.length_take]; show _ + 1 ≤ 1000; omega))) fun a3 ha3 => ?_
            have b3 : Same G2 (upd G2 a3 (.lst (xs.take jn ++ [.ref b7]))) := same_new (Same.refl _) ha3
            have c3 : upd G2 a3 (.lst (xs.take jn ++ [V.ref b7])) a3 = some (.lst (xs.take jn ++ [.ref b7])) := upd_same
            generalize upd G2 a3 (.lst (xs.take jn ++ [V.ref b7])) = G3 at b3 c3
            refine sl_ ?_
            refine R.var rfl ?_
            refine pt_ ?_
            refine R.var rfl ?_
            refine ⟨_, rfl, ?_⟩
            refine np_ ?_
            have b13 := (b1.trans b2).trans b3
            refine slL (b13 _ _ s7) fun a4 ha4 => ?_
            rw [cut_from xs (by omega) (by omega), Int.toNat_natCast]
            have b4 : Same G3 (upd G3 a4 (.lst (xs.drop jn))) := same_new (Same.refl _) ha4
            have c4 : upd G3 a4 (.lst (xs.drop jn)) a4 = some (.lst (xs.drop jn)) := upd_same
            generalize upd G3 a4 (.lst (xs.drop jn)) = G4 at b4 c4
            refine catL (b4 _ _ c3) c4 (Nat.le_of_lt (small1000 (by rw [List.length_append, List.length_take, List.length_drop]; show _ + 1 + _ ≤ 1000; omega))) fun a5 ha5 => ?_
            have b5 : Same G4 (upd G4 a5 (.lst (xs.take jn ++ [V.ref b7] ++ xs.drop jn))) := same_new (Same.refl _) ha5
            have c5 : upd G4 a5 (.lst (xs.take jn ++ [V.ref b7] ++ xs.drop jn)) a5 = some (.lst (xs.take jn ++ [.ref b7] ++ xs.drop jn)) := upd_same
            generalize upd G4 a5 (.lst (xs.take jn ++ [V.ref b7] ++ xs.drop jn)) = G5 at b5 c5
            walk_at "rd"
            refine ⟨by decide, fun u hu => ?_⟩
            have b6 : Same G5 (upd G5 u (.tup [.int (jn : Int), .str z])) := same_new (Same.refl _) hu
            have c6 : upd G5 u (.tup [V.int (jn : Int), .str z]) u = some (.tup [.int (jn : Int), .str z]) := upd_same
            generalize upd G5 u (.tup [V.int (jn : Int), .str z]) = G6 at b6 c6
            walk_at "rd"
            refine ⟨by decide, fun t ht => ?_⟩
            have b7' : Same G6 (upd G6 t (.tup [.ref a5, .ref u])) := same_new (Same.refl _) ht
            have c7 : upd G6 t (.tup [V.ref a5, .ref u]) t = some (.tup [.ref a5, .ref u]) := upd_same
            generalize upd G6 t (.tup [V.ref a5, .ref u]) = G7 at b7' c7
            have ball : Same H7 G7 := (((b13.trans b4).trans b5).trans b6).trans b7'
            refine k G7 t a5 u jn bad z (((e1.trans (SameBut.of s16)).trans e7).trans (SameBut.of ball)) (P7.same ball) c7 hsh hsf ⟨by omega, b7' _ _ c6, _, (b6.trans b7') _ _ c5, ?_⟩
            have htG : TupsAt G7 xs ds := ht7.keep fun a d h => ball _ _ h
            exact ((htG.take jn).cat (.cons (ball _ _ hb7) .nil)).cat (htG.drop jn)
end
end KN
end
section
set_option Elab.async false
set_option linter.all false
set_option maxRecDepth 100000
set_option maxHeartbeats 4000000
set_option pp.maxSteps 1500
set_option pp.deepTerms false
local macro_rules | `(tactic| walk_at "ne") => `(tactic| first
  | assumption | (apply Ne.symm; assumption)
  | exact R.ne_new (by assumption) | exact (R.ne_new (by assumption)).symm
  | exact L2.ne_of_none (by assumption) (by assumption) | exact (L2.ne_of_none (by assumption) (by assumption)).symm
  | exact L2.ne_of_none (by assumption) (R.free_new (by assumption)) | exact (L2.ne_of_none (by assumption) (R.free_new (by assumption))).symm)
local macro_rules | `(tactic| walk_at "at") => `(tactic| first
  | assumption | exact L2.upd_same
  | (refine R.sb (H := ?H) (p := ?p) ?e ?n ?h; (case e => assumption); (case n => walk_at "ne"); (case h => walk_at "at"))
  | (refine R.sm (H := ?H) ?e ?h; (case e => assumption); (case h => walk_at "at"))
  | (refine Eq.trans (L2.upd_ne ?_) ?_ <;> first | walk_at "ne" | walk_at "at"))
local macro_rules | `(tactic| walk_at "sqt") => `(tactic| first | assumption | (refine L2.SqT.of ?_; walk_at "at"))
local macro_rules | `(tactic| walk_at "ty") => `(tactic| first | exact R.tyN | exact R.tyB | exact R.tyI | exact R.tyS | (refine R.tyT (xs := ?xs) ?h; case h => walk_at "at") | (refine R.tyL (xs := ?xs) ?h; case h => walk_at "at"))
local macro_rules | `(tactic| walk_at "kit") => `(tactic| first | exact R.kit_NoneType_tuple | exact R.kit_NoneType_list | exact R.kit_NoneType_bool | exact R.kit_NoneType_str | exact R.kit_NoneType_int | exact R.kit_bool_tuple | exact R.kit_bool_list | exact R.kit_bool_bool | exact R.kit_bool_str | exact R.kit_bool_int | exact R.kit_int_tuple | exact R.kit_int_list | exact R.kit_int_bool | exact R.kit_int_str | exact R.kit_int_int | exact R.kit_str_tuple | exact R.kit_str_list | exact R.kit_str_bool | exact R.kit_str_str | exact R.kit_str_int | exact R.kit_tuple_tuple | exact R.kit_tuple_list | exact R.kit_tuple_bool | exact R.kit_tuple_str | exact R.kit_tuple_int | exact R.kit_list_tuple | exact R.kit_list_list | exact R.kit_list_bool | exact R.kit_list_str | exact R.kit_list_int)
local macro_rules | `(tactic| walk_at "sz") => `(tactic| first | assumption | (refine Nat.le_trans ?_ (show 1000 ≤ PySem.sizeLine by decide); omega) | decide)
local macro_rules | `(tactic| walk_at "szl") => `(tactic| first | assumption | exact Nat.le_of_lt (L2.small1000 (by omega)) | decide | decide +kernel)
local macro_rules | `(tactic| walk_at "sqa") => `(tactic| first | assumption | exact R.SeqA.same (by assumption) (by assumption) | exact R.SeqA.new (by assumption) (by assumption) | (exact Or.inl (by walk_at "at")) | (exact Or.inr (by walk_at "at")))
local macro_rules | `(tactic| walk_at "ix") => `(tactic| first | rfl | (exact L2.atI_nat (by assumption)) | assumption)
local macro_rules | `(tactic| walk_at "cond") => `(tactic| first
  | exact Or.inl (by decide) | exact Or.inr (by decide) | exact Or.inl ⟨by omega, by omega⟩ | exact Or.inr ⟨by omega, by omega⟩
  | (constructor <;> omega) | (show _ ≠ _; omega) | decide | omega)
local macro_rules | `(tactic| walk_at "r1") => `(tactic| first
  | with_reducible refine R.seq ?_ | with_reducible refine R.asg ?_ | with_reducible refine R.ifs ?_ | with_reducible refine R.ret ?_ | with_reducible refine R.retN ?_ | with_reducible refine R.drop ?_ | with_reducible refine R.next ?_
  | with_reducible refine R.op ?_ | ((with_reducible refine R.var (v := ?v) ?h ?q); case h => rfl) | with_reducible refine R.c ?_ | with_reducible refine R.tst ?_ | with_reducible refine R.tb_ ?_ | with_reducible refine R.ex ?_
  | with_reducible refine R.i0 ?_ | with_reducible refine R.eqI ?_ | with_reducible refine R.neI ?_ | ((with_reducible refine R.ic ?_ ?_); · walk_at "cond") | with_reducible refine R.u0 ?_ | with_reducible refine R.un ?_
  | ((with_reducible refine R.eq ?_ ?_); · rfl) | ((with_reducible refine R.ne ?_ ?_); · rfl)
  | with_reducible refine R.and_ ?_ | with_reducible refine R.or_ ?_ | with_reducible refine R.not_ ?_ | with_reducible refine R.ife ?_ | with_reducible refine R.chain ?_
  | with_reducible refine R.cons ?_ | with_reducible refine R.nil ?_ | with_reducible refine R.call ?_ | with_reducible refine R.cb ?_ | with_reducible refine R.bm ?_
  | with_reducible refine R.gname ?_ | with_reducible refine R.gsub ?_ | with_reducible refine R.gnil ?_ | with_reducible refine R.gcons ?_ | with_reducible refine R.yes ?_
  | with_reducible refine R.int1 ?_ | ((with_reducible refine R.lenL (xs := ?xs) ?h ?q); case h => walk_at "at")
  | ((with_reducible refine R.ixL (xs := ?xs) (v := ?v) ?h ?e ?q); (case h => walk_at "at"); (case e => walk_at "ix"))
  | ((with_reducible refine R.setL (xs := ?xs) (n := ?n) ?h ?e ?q); (case h => walk_at "at"); (case e => rfl))
  | ((with_reducible refine R.append (xs := ?xs) ?h ?e ?q); (case h => walk_at "at"); (case e => walk_at "cond"))
  | with_reducible refine R.is_ ?_ | with_reducible refine R.isnot ?_ | with_reducible refine R.andV ?_ | with_reducible refine R.orV ?_ | with_reducible refine R.notV ?_
  | ((with_reducible refine R.isi (s := ?s) (b := ?b) ?ty ?h ?q); (case ty => walk_at "ty"); (case h => walk_at "kit"))
  | ((with_reducible refine R.addS ?h ?q); (case h => walk_at "sz")) | with_reducible refine R.max2 ?_ | with_reducible refine R.min2 ?_
  | ((with_reducible refine R.lenStr ?h ?q); (case h => walk_at "szl")) | ((with_reducible refine R.ixS (n := ?n) ?h ?e ?q); (case h => walk_at "szl"); (case e => walk_at "ix"))
  | ((with_reducible refine R.tyl (xs := ?xs) ?h ?q); (case h => walk_at "at")) | with_reducible refine R.itlist ?_ | with_reducible refine R.ittup ?_ | with_reducible refine R.m1 ?_ | with_reducible refine R.m1s ?_ | with_reducible refine R.leS ?_ | with_reducible refine R.itstr ?_ | with_reducible refine R.itstrE ?_ | with_reducible refine R.lc ?_ | with_reducible refine R.for_ ?_ | ((with_reducible refine R.all_ (bs := ?bs) ?h ?q); (case h => walk_at "at"))
  | with_reducible refine R.rng1 ?_ | ((with_reducible refine R.rngE ?h ?q); (case h => (constructor <;> omega)))
  | ((with_reducible refine R.lenT (xs := ?xs) ?h ?q); (case h => walk_at "sqt")) | ((with_reducible refine R.ixT (xs := ?xs) (v := ?v) ?h ?e ?q); (case h => walk_at "sqt"); (case e => walk_at "ix"))
  | ((refine R.itlE (xs := ?xs) ?h ?q); (case h => walk_at "at")) | ((refine R.ittE (xs := ?xs) ?h ?q); (case h => walk_at "at"))
  | ((refine R.gseq (xs := ?xs) ?h ?e ?q); (case h => walk_at "sqa"); (case e => rfl)) | ((refine R.ixA (xs := ?xs) (v := ?v) ?h ?e ?q); (case h => walk_at "sqa"); (case e => walk_at "ix")) | ((refine R.lenA (xs := ?xs) ?h ?q); (case h => walk_at "sqa"))
  | ((with_reducible refine R.gtup (xs := ?xs) ?h ?e ?q); (case h => walk_at "sqt"); (case e => rfl))
  | with_reducible refine R.din_ ?_ | with_reducible refine R.dput_ ?_
  | with_reducible refine R.sfld ?_ | with_reducible refine R.fld_ ?_ | with_reducible refine R.dc ?_
  | with_reducible refine R.dget1_ ?_
  | with_reducible refine R.itseq ?_ | with_reducible refine R.itenum ?_
  | with_reducible refine R.itT ?_ | with_reducible refine R.itF ?_ | with_reducible refine R.itNT ?_ | with_reducible refine R.itNF ?_
  | (with_reducible refine R.tup ?_) | (with_reducible refine R.lst ?_))
local macro_rules | `(tactic| walk_at "rd") => `(tactic| (repeat (first | walk_at "r1" | (dsimp only [Int.reduceToNat, List.set_cons_succ, List.set_cons_zero, List.length_cons, List.length_nil, List.nil_append, List.cons_append, List.append_nil]))))
local macro_rules | `(tactic| walk_at "go") => `(tactic| (rw [R.start_eq]; dsimp only [R.startE, List.map_nil]; walk_at "rd"))
local macro_rules | `(tactic| walk_at "ed") => `(tactic| (repeat (first | exact R.es_nil | exact R.ed_i | exact R.ed_s | exact R.ed_b | exact R.ed_n | exact R.ed_neg | exact R.ed_pow ⟨by decide, by decide, by decide⟩ | with_reducible refine R.es_cons ?_ ?_ | with_reducible refine R.ed_tup ?_)))
namespace KN
open PySem L2 SX R
open C8 (Cal Def cal0 pe_c pe_gc fnScope fnBody pss_cut)
section
variable {P : Program} {w : World} {K : PySem.W.Frag} {mg : Str → Option Value} {base : Heap}
abbrev mTab1 : List PyData := [rowD [] "length", rowD [.str "a", .int 5, .int 1, .bool true] "length", rowD [.str "a", .int 5, .int 1, .bool true, .int 0, .int 0] "length", rowD [.str "", .int 5, .int 1, .bool true, .int 0] "word"]
abbrev mTab2 : List PyData := [rowD [.str "abcdefghi", .int 1, .int 0, .bool true, .int 9] "word", rowD [.str "zzz", .int 1, .int 0, .bool false, .int 0] "value", rowD [.str "zzz", .int 100001, .int 1, .bool false, .int 0] "value"]
abbrev mTab3 : List PyData := [rowD [.str "zzz", .int 5, .int 0, .bool false, .int 9] "count", rowD [.str "zzz", .int 5, .int 100001, .bool false, .int 9] "count", rowD [.str "zzz", .int 5, .int 30000, .bool false, .int 5] "rest"]
abbrev mTab4 : List PyData := [rowD [.str "zzz", .int 5, .none, .bool true, .int (-1)] "rest", rowD [.str "zzz", .int 5, .int 20000, .bool false, .int 1] "large", rowD [.str "zzz", .int 2, .int 50001, .bool true, .int 0] "large"]
theorem mTab_ok : ∀ (k : Nat) (d : PyData), (mTab1 ++ mTab2 ++ mTab3 ++ mTab4)[k]? = some d → ∃ r z, d = rowD r z ∧ ∀ (H : Hp) (vs : List V), Tds H vs r → MShape vs (some z) := by
  intro k d h
  have five : ∀ (x : Str) (v : Int) (c : Int) (u : Bool) (r : Int) (z : Str), x.length ≤ 1000 → mfc x v (some c) r = some z → ∃ r' z', rowD [.str x, .int v, .int c, .bool u, .int r] z = rowD r' z' ∧ ∀ (H : Hp) (vs : List V), Tds H vs r' → MShape vs (some z') := fun x v c u r z hx hz => ⟨_, _, rfl, fun H vs hv => by
    cases hv with
    | cons a t => cases a; cases t with
      | cons a t => cases a; cases t with
        | cons a t => cases a; cases t with
          | cons a t => cases a; cases t with
            | cons a t =>
              cases a; cases t
              have := MShape.yes x v (some c) u r hx
              rw [hz] at this
              exact this⟩
  have fiven : ∀ (x : Str) (v : Int) (u : Bool) (r : Int) (z : Str), x.length ≤ 1000 → mfc x v none r = some z → ∃ r' z', rowD [.str x, .int v, .none, .bool u, .int r] z = rowD r' z' ∧ ∀ (H : Hp) (vs : List V), Tds H vs r' → MShape vs (some z') := fun x v u r z hx hz => ⟨_, _, rfl, fun H vs hv => by
    cases hv with
    | cons a t => cases a; cases t with
      | cons a t => cases a; cases t with
        | cons a t => cases a; cases t with
          | cons a t => cases a; cases t with
            | cons a t =>
              cases a; cases t
              have := MShape.yes x v none u r hx
              rw [hz] at this
              exact this⟩
  have other : ∀ (r : List PyData) (hr : r.length ≠ 5), ∃ r' z', rowD r "length" = rowD r' z' ∧ ∀ (H : Hp) (vs : List V), Tds H vs r' → MShape vs (some z') := fun r hr => ⟨_, _, rfl, fun H vs hv => .no (by rw [hv.len]; exact hr)⟩
  match k, h with
  | 0, h => cases h; exact other _ (by decide)
  | 1, h => cases h; exact other _ (by show 4 ≠ 5; decide)
  | 2, h => cases h; exact other _ (by show 6 ≠ 5; decide)
  | 3, h => cases h; exact five _ _ _ _ _ _ (by decide +kernel) (by decide +kernel)
  | 4, h => cases h; exact five _ _ _ _ _ _ (by decide +kernel) (by decide +kernel)
  | 5, h => cases h; exact five _ _ _ _ _ _ (by decide +kernel) (by decide +kernel)
  | 6, h => cases h; exact five _ _ _ _ _ _ (by decide +kernel) (by decide +kernel)
  | 7, h => cases h; exact five _ _ _ _ _ _ (by decide +kernel) (by decide +kernel)
  | 8, h => cases h; exact five _ _ _ _ _ _ (by decide +kernel) (by decide +kernel)
  | 9, h => cases h; exact five _ _ _ _ _ _ (by decide +kernel) (by decide +kernel)
  | 10, h => cases h; exact fiven _ _ _ _ _ (by decide +kernel) (by decide +kernel)
  | 11, h => cases h; exact five _ _ _ _ _ _ (by decide +kernel) (by decide +kernel)
  | 12, h => cases h; exact five _ _ _ _ _ _ (by decide +kernel) (by decide +kernel)
  | n + 13, h => cases h
def spBadm : Sp := fun vs H Q _ => ∃ (p l s : Addr) (xs : List V) (ds : List (List V)), vs = [.ref p, .ref s] ∧ PoolAt H p l ∧ H s = some (.lst xs) ∧ s ≠ p ∧ TupsAt H xs ds ∧ ds.length ≤ 24 ∧
  ∀ (H' : Hp) (t s' u : Addr) (j : Nat) (bad : List V) (z : Str), SameBut p H H' → PoolAt H' p l → H' t = some (.tup [.ref s', .ref u]) → MShape bad (some z) → BadAt H' s' u ds j bad z → Q (.ref t) H'
theorem c_bad_multiplier (Z : Zs mg) (c_take : Cal P w K mg base 2 "_law_take" spTake []) {f : Addr} {fd : FuncData} (F : Def K mg "_law_bad_multiplier" sBadm f fd) (b : Binds K fd ["pool", "multipliers"] []) : Cal P w K mg base 3 "_law_bad_multiplier" spBadm [] := by
  refine cal0 F b .nil scBadm (fun vs H Q E h => ?_) (fun cdv A outer s H vs Q E hr h => ?_)
  · obtain ⟨p, l, s, xs, ds, rfl, _⟩ := h
    rfl
  · obtain ⟨p, l, s, xs, ds, rfl, hP, hs, sp, hts, hrl, k⟩ := h
    refine ⟨_, pss_cons (ps_set (i := 2) scBadm.nd rfl (Or.inl rfl) (pe_c c_take hr (by omega) (by rfl) (pa_cons (pv 0) (pa_cons (pe_op op_add (pe_callB (kLen K) (by rfl) Z.len PySem.boot_len (pa_cons (pv 1) pa_nil)) pe_int) pa_nil))))
      (pss_cons (ps_set (i := 3) scBadm.nd rfl (Or.inl rfl) (pe_lst (pa_cons (pe_tup (pa_cons (pe_tup pa_nil) (pa_cons pe_str pa_nil))) (pa_cons (pe_tup (pa_cons (pe_tup (pa_cons pe_str (pa_cons pe_int (pa_cons pe_int (pa_cons pe_bl pa_nil))))) (pa_cons pe_str pa_nil))) (pa_cons (pe_tup (pa_cons (pe_tup (pa_cons pe_str (pa_cons pe_int (pa_cons pe_int (pa_cons pe_bl (pa_cons pe_int (pa_cons pe_int pa_nil))))))) (pa_cons pe_str pa_nil))) (pa_cons (pe_tup (pa_cons (pe_tup (pa_cons pe_str (pa_cons pe_int (pa_cons pe_int (pa_cons pe_bl (pa_cons pe_int pa_nil)))))) (pa_cons pe_str pa_nil))) pa_nil))))))
      (pss_cons (ps_set (i := 3) scBadm.nd rfl (Or.inl rfl) (pe_op op_cat (pv 3) (pe_lst (pa_cons (pe_tup (pa_cons (pe_tup (pa_cons pe_str (pa_cons pe_int (pa_cons pe_int (pa_cons pe_bl (pa_cons pe_int pa_nil)))))) (pa_cons pe_str pa_nil))) (pa_cons (pe_tup (pa_cons (pe_tup (pa_cons pe_str (pa_cons pe_int (pa_cons pe_int (pa_cons pe_bl (pa_cons pe_int pa_nil)))))) (pa_cons pe_str pa_nil))) (pa_cons (pe_tup (pa_cons (pe_tup (pa_cons pe_str (pa_cons pe_int (pa_cons pe_int (pa_cons pe_bl (pa_cons pe_int pa_nil)))))) (pa_cons pe_str pa_nil))) pa_nil))))))
      (pss_cons (ps_set (i := 3) scBadm.nd rfl (Or.inl rfl) (pe_op op_cat (pv 3) (pe_lst (pa_cons (pe_tup (pa_cons (pe_tup (pa_cons pe_str (pa_cons pe_int (pa_cons pe_int (pa_cons pe_bl (pa_cons pe_int pa_nil)))))) (pa_cons pe_str pa_nil))) (pa_cons (pe_tup (pa_cons (pe_tup (pa_cons pe_str (pa_cons pe_int (pa_cons pe_int (pa_cons pe_bl (pa_cons pe_int pa_nil)))))) (pa_cons pe_str pa_nil))) (pa_cons (pe_tup (pa_cons (pe_tup (pa_cons pe_str (pa_cons pe_int (pa_cons pe_int (pa_cons pe_bl (pa_cons pe_int pa_nil)))))) (pa_cons pe_str pa_nil))) pa_nil))))))
      (pss_cons (ps_set (i := 3) scBadm.nd rfl (Or.inl rfl) (pe_op op_cat (pv 3) (pe_lst (pa_cons (pe_tup (pa_cons (pe_tup (pa_cons pe_str (pa_cons pe_int (pa_cons pe_non (pa_cons pe_bl (pa_cons (pe_un un_neg pe_int) pa_nil)))))) (pa_cons pe_str pa_nil))) (pa_cons (pe_tup (pa_cons (pe_tup (pa_cons pe_str (pa_cons pe_int (pa_cons pe_int (pa_cons pe_bl (pa_cons pe_int pa_nil)))))) (pa_cons pe_str pa_nil))) (pa_cons (pe_tup (pa_cons (pe_tup (pa_cons pe_str (pa_cons pe_int (pa_cons pe_int (pa_cons pe_bl (pa_cons pe_int pa_nil)))))) (pa_cons pe_str pa_nil))) pa_nil))))))
      (pss_cons (ps_asg (pe_ix (kIxL K) (pv 3) (pe_c c_take hr (by omega) (by rfl) (pa_cons (pv 0) (pa_cons (pe_callB (kLen K) (by rfl) Z.len PySem.boot_len (pa_cons (pv 3) pa_nil)) pa_nil))) (fun _ _ => rfl)) (kgTup K (n := 2) rfl (pgs_cons (pg_name (i := 4) scBadm.nd rfl (Or.inl rfl)) (pgs_cons (pg_name (i := 5) scBadm.nd rfl (Or.inl rfl)) pgs_nil))))
      (pss_one (ps_ret (pe_tup (pa_cons (pe_op op_cat (pe_op op_cat (pe_slice (kSlL K) (pv 1) po_none (po_some (pv 2))) (pe_lst (pa_cons (pv 4) pa_nil))) (pe_slice (kSlL K) (pv 1) (po_some (pv 2)) po_none)) (pa_cons (pe_tup (pa_cons (pv 2) (pa_cons (pv 5) pa_nil))) pa_nil)))))))))), ?_⟩
    have lx : xs.length = ds.length := hts.len
    walk_at "go"
    refine r_take' hP (by omega) (by omega) (fun H1 j e1 P1 j0 j1 => ?_)
    refine R.gname ?_
    dsimp only [List.set_cons_succ, List.set_cons_zero, List.map_nil]
    refine R.seq ?_
    refine R.asg ?_
    refine R.ed_lst (ds := mTab1) (by walk_at "ed") (fun q1 vs1 H2 s2 hq0 hq1 t1 => ?_)
    refine R.gname ?_
    dsimp only [List.set_cons_succ, List.set_cons_zero, List.map_nil]
    refine R.seq ?_
    refine R.asg ?_
    refine R.op ?_
    refine R.var rfl ?_
    refine R.ed_lst (ds := mTab2) (by walk_at "ed") (fun q2 vs2 H3 s3 hq02 hq2 t2 => ?_)
    refine catL (s3 _ _ hq1) hq2 (by rw [t1.len, t2.len]; decide) fun q3 hq3 => ?_
    have s4 : Same H3 (upd H3 q3 (.lst (vs1 ++ vs2))) := same_new (Same.refl _) hq3
    have g3 : upd H3 q3 (.lst (vs1 ++ vs2)) q3 = some (.lst (vs1 ++ vs2)) := upd_same
    have t12 : Tds (upd H3 q3 (.lst (vs1 ++ vs2))) (vs1 ++ vs2) (mTab1 ++ mTab2) := ((t1.keep fun a d h => s3 _ _ h).app t2).keep fun a d h => s4 _ _ h
    generalize upd H3 q3 (.lst (vs1 ++ vs2)) = H4 at s4 g3 t12
    refine R.gname ?_
    dsimp only [List.set_cons_succ, List.set_cons_zero, List.map_nil]
    refine R.seq ?_
    refine R.asg ?_
    refine R.op ?_
    refine R.var rfl ?_
    refine R.ed_lst (ds := mTab3) (by walk_at "ed") (fun q4 vs3 H5 s5 hq04 hq4 t3 => ?_)
    refine catL (s5 _ _ g3) hq4 (by rw [t12.len, t3.len]; decide) fun q5 hq5 => ?_
    have s6 : Same H5 (upd H5 q5 (.lst (vs1 ++ vs2 ++ vs3))) := same_new (Same.refl _) hq5
    have g5 : upd H5 q5 (.lst (vs1 ++ vs2 ++ vs3)) q5 = some (.lst (vs1 ++ vs2 ++ vs3)) := upd_same
    have t123 : Tds (upd H5 q5 (.lst (vs1 ++ vs2 ++ vs3))) (vs1 ++ vs2 ++ vs3) (mTab1 ++ mTab2 ++ mTab3) := ((t12.keep fun a d h => s5 _ _ h).app t3).keep fun a d h => s6 _ _ h
    generalize upd H5 q5 (.lst (vs1 ++ vs2 ++ vs3)) = H6 at s6 g5 t123
    refine R.gname ?_
    dsimp only [List.set_cons_succ, List.set_cons_zero, List.map_nil]
    refine R.seq ?_
    refine R.asg ?_
    refine R.op ?_
    refine R.var rfl ?_
    refine R.ed_lst (ds := mTab4) (by walk_at "ed") (fun q6 vs4 H5b s5b hq06 hq6 t4 => ?_)
    refine catL (s5b _ _ g5) hq6 (by rw [t123.len, t4.len]; decide) fun q7 hq7 => ?_
    obtain ⟨hsp5, _⟩ := (P1.same (((((s2.trans s3).trans s4).trans s5).trans s6).trans s5b)).nep hq7
    have s6b : Same H5b (upd H5b q7 (.lst (vs1 ++ vs2 ++ vs3 ++ vs4))) := same_new (Same.refl _) hq7
    have g5b : upd H5b q7 (.lst (vs1 ++ vs2 ++ vs3 ++ vs4)) q7 = some (.lst (vs1 ++ vs2 ++ vs3 ++ vs4)) := upd_same
    have t1234 : Tds (upd H5b q7 (.lst (vs1 ++ vs2 ++ vs3 ++ vs4))) (vs1 ++ vs2 ++ vs3 ++ vs4) (mTab1 ++ mTab2 ++ mTab3 ++ mTab4) := ((t123.keep fun a d h => s5b _ _ h).app t4).keep fun a d h => s6b _ _ h
    generalize upd H5b q7 (.lst (vs1 ++ vs2 ++ vs3 ++ vs4)) = H6b at s6b g5b t1234
    have s16 : Same H1 H6b := ((((((s2.trans s3).trans s4).trans s5).trans s6)).trans s5b).trans s6b
    have P6 := P1.same s16
    have hl12 : (vs1 ++ vs2 ++ vs3 ++ vs4).length = 13 := by rw [t1234.len]; rfl
    walk_at "rd"
    rw [hl12]
    refine r_take' P6 (by decide) (by decide) (fun H7 d7 e7 P7 l7 u7 => ?_)
    have g7 := e7 _ _ hsp5 g5b
    have t7 : Tds H7 (vs1 ++ vs2 ++ vs3 ++ vs4) (mTab1 ++ mTab2 ++ mTab3 ++ mTab4) := t1234.keep (keep_pool P6 e7)
    have hk : ∃ d, (mTab1 ++ mTab2 ++ mTab3 ++ mTab4)[d7.toNat]? = some d := ⟨_, List.getElem?_eq_getElem (by show d7.toNat < 13; omega)⟩
    obtain ⟨dd, hdd⟩ := hk
    obtain ⟨r, z, rfl, hok⟩ := mTab_ok _ _ hdd
    obtain ⟨v, hv, htv⟩ := t7.get _ _ hdd
    have eat : atI (vs1 ++ vs2 ++ vs3 ++ vs4) d7 = some v := atI_mid l7 hv
    cases htv with
    | @tup a7 ws7 _ ha7 hws7 =>
      cases hws7 with
      | cons hw1 hw2 =>
        cases hw2 with
        | cons hz hn =>
          cases hn
          cases hz
          cases hw1 with
          | @tup b7 bad _ hb7 hbad =>
            have hsh := hok H7 bad hbad
            refine R.ixL g7 eat ?_
            refine R.gtup (SqT.of ha7) rfl ?_
            refine R.gcons ?_
            refine R.gname ?_
            refine R.gcons ?_
            refine R.gname ?_
            refine R.gnil ?_
            dsimp only [List.set_cons_succ, List.set_cons_zero, List.map_nil]
            have s7 := e7 _ _ sp (s16 _ _ (e1 _ _ sp hs))
            have ht7 : TupsAt H7 xs ds := ((hts.keep (keep_pool hP e1)).keep fun a d h => s16 _ _ h).keep (keep_pool P6 e7)
            obtain ⟨jn, rfl⟩ : ∃ n : Nat, j = (n : Int) := ⟨j.toNat, by omega⟩
            have hjl : jn ≤ xs.length := by omega
            refine R.ret ?_
            refine R.tup ?_
            refine R.cons ?_
            refine R.op ?_
            refine R.op ?_
            refine sl_ ?_
            refine R.var rfl ?_
            refine np_ ?_
            refine pt_ ?_
            refine R.var rfl ?_
            refine ⟨_, rfl, ?_⟩
            refine slL s7 fun a1 ha1 => ?_
            rw [cut_to xs (by omega) (by omega), Int.toNat_natCast]
            have b1 : Same H7 (upd H7 a1 (.lst (xs.take jn))) := same_new (Same.refl _) ha1
            have c1 : upd H7 a1 (.lst (xs.take jn)) a1 = some (.lst (xs.take jn)) := upd_same
            generalize upd H7 a1 (.lst (xs.take jn)) = G1 at b1 c1
            walk_at "rd"
            refine ⟨by decide, fun a2 ha2 => ?_⟩
            have b2 : Same G1 (upd G1 a2 (.lst [.ref b7])) := same_new (Same.refl _) ha2
            have c2 : upd G1 a2 (.lst [V.ref b7]) a2 = some (.lst [.ref b7]) := upd_same
            generalize upd G1 a2 (.lst [V.ref b7]) = G2 at b2 c2
            refine catL (b2 _ _ c1) c2 (Nat.le_of_lt (small1000 (by rw [List.length_take]; show _ + 1 ≤ 1000; omega))) fun a3 ha3 => ?_
            have b3 : Same G2 (upd G2 a3 (.lst (xs.take jn ++ [.ref b7]))) := same_new (Same.refl _) ha3
            have c3 : upd G2 a3 (.lst (xs.take jn ++ [V.ref b7])) a3 = some (.lst (xs.take jn ++ [.ref b7])) := upd_same
            generalize upd G2 a3 (.lst (xs.take jn ++ [V.ref b7])) = G3 at b3 c3
            refine sl_ ?_
            refine R.var rfl ?_
            refine pt_ ?_
            refine R.var rfl ?_
            refine ⟨_, rfl, ?_⟩
            refine np_ ?_
            have b13 := (b1.trans b2).trans b3
            refine slL (b13 _ _ s7) fun a4 ha4 => ?_
            rw [cut_from xs (by omega) (by omega), Int.toNat_natCast]
            have b4 : Same G3 (upd G3 a4 (.lst (xs.drop jn))) := same_new (Same.refl _) ha4
            have c4 : upd G3 a4 (.lst (xs.drop jn)) a4 = some (.lst (xs.drop jn)) := upd_same
            generalize upd G3 a4 (.lst (xs.drop jn)) = G4 at b4 c4
            refine catL (b4 _ _ c3) c4 (Nat.le_of_lt (small1000 (by rw [List.length_append, List.length_take, List.length_drop]; show _ + 1 + _ ≤ 1000; omega))) fun a5 ha5 => ?_
            have b5 : Same G4 (upd G4 a5 (.lst (xs.take jn ++ [V.ref b7] ++ xs.drop jn))) := same_new (Same.refl _) ha5
            have c5 : upd G4 a5 (.lst (xs.take jn ++ [V.ref b7] ++ xs.drop jn)) a5 = some (.lst (xs.take jn ++ [.ref b7] ++ xs.drop jn)) := upd_same
            generalize upd G4 a5 (.lst (xs.take jn ++ [V.ref b7] ++ xs.drop jn)) = G5 at b5 c5
            walk_at "rd"
            refine ⟨by decide, fun u hu => ?_⟩
            have b6 : Same G5 (upd G5 u (.tup [.int (jn : Int), .str z])) := same_new (Same.refl _) hu
            have c6 : upd G5 u (.tup [V.int (jn : Int), .str z]) u = some (.tup [.int (jn : Int), .str z]) := upd_same
            generalize upd G5 u (.tup [V.int (jn : Int), .str z]) = G6 at b6 c6
            walk_at "rd"
            refine ⟨by decide, fun t ht => ?_⟩
            have b7' : Same G6 (upd G6 t (.tup [.ref a5, .ref u])) := same_new (Same.refl _) ht
            have c7 : upd G6 t (.tup [V.ref a5, .ref u]) t = some (.tup [.ref a5, .ref u]) := upd_same
            generalize upd G6 t (.tup [V.ref a5, .ref u]) = G7 at b7' c7
            have ball : Same H7 G7 := (((b13.trans b4).trans b5).trans b6).trans b7'
            refine k G7 t a5 u jn bad z (((e1.trans (SameBut.of s16)).trans e7).trans (SameBut.of ball)) (P7.same ball) c7 hsh ⟨by omega, b7' _ _ c6, _, (b6.trans b7') _ _ c5, ?_⟩
            have htG : TupsAt G7 xs ds := ht7.keep fun a d h => ball _ _ h
            exact ((htG.take jn).cat (.cons (ball _ _ hb7) .nil)).cat (htG.drop jn)
end
end KN
end
section
set_option Elab.async false
set_option linter.all false
set_option maxRecDepth 100000
set_option maxHeartbeats 4000000
set_option pp.maxSteps 1500
set_option pp.deepTerms false
local macro_rules | `(tactic| walk_at "ne") => `(tactic| first
  | assumption | (apply Ne.symm; assumption)
  | exact R.ne_new (by assumption) | exact (R.ne_new (by assumption)).symm
  | exact L2.ne_of_none (by assumption) (by assumption) | exact (L2.ne_of_none (by assumption) (by assumption)).symm
  | exact L2.ne_of_none (by assumption) (R.free_new (by assumption)) | exact (L2.ne_of_none (by assumption) (R.free_new (by assumption))).symm)
local macro_rules | `(tactic| walk_at "at") => `(tactic| first
  | assumption | exact L2.upd_same
  | (refine R.sb (H := ?H) (p := ?p) ?e ?n ?h; (case e => assumption); (case n => walk_at "ne"); (case h => walk_at "at"))
  | (refine R.sm (H := ?H) ?e ?h; (case e => assumption); (case h => walk_at "at"))
  | (refine Eq.trans (L2.upd_ne ?_) ?_ <;> first | walk_at "ne" | walk_at "at"))
local macro_rules | `(tactic| walk_at "sqt") => `(tactic| first | assumption | (refine L2.SqT.of ?_; walk_at "at"))
local macro_rules | `(tactic| walk_at "ty") => `(tactic| first | exact R.tyN | exact R.tyB | exact R.tyI | exact R.tyS | (refine R.tyT (xs := ?xs) ?h; case h => walk_at "at") | (refine R.tyL (xs := ?xs) ?h; case h => walk_at "at"))
local macro_rules | `(tactic| walk_at "kit") => `(tactic| first | exact R.kit_NoneType_tuple | exact R.kit_NoneType_list | exact R.kit_NoneType_bool | exact R.kit_NoneType_str | exact R.kit_NoneType_int | exact R.kit_bool_tuple | exact R.kit_bool_list | exact R.kit_bool_bool | exact R.kit_bool_str | exact R.kit_bool_int | exact R.kit_int_tuple | exact R.kit_int_list | exact R.kit_int_bool | exact R.kit_int_str | exact R.kit_int_int | exact R.kit_str_tuple | exact R.kit_str_list | exact R.kit_str_bool | exact R.kit_str_str | exact R.kit_str_int | exact R.kit_tuple_tuple | exact R.kit_tuple_list | exact R.kit_tuple_bool | exact R.kit_tuple_str | exact R.kit_tuple_int | exact R.kit_list_tuple | exact R.kit_list_list | exact R.kit_list_bool | exact R.kit_list_str | exact R.kit_list_int)
local macro_rules | `(tactic| walk_at "sz") => `(tactic| first | assumption | (refine Nat.le_trans ?_ (show 1000 ≤ PySem.sizeLine by decide); omega) | decide)
local macro_rules | `(tactic| walk_at "szl") => `(tactic| first | assumption | exact Nat.le_of_lt (L2.small1000 (by omega)) | decide | decide +kernel)
local macro_rules | `(tactic| walk_at "sqa") => `(tactic| first | assumption | exact R.SeqA.same (by assumption) (by assumption) | exact R.SeqA.new (by assumption) (by assumption) | (exact Or.inl (by walk_at "at")) | (exact Or.inr (by walk_at "at")))
local macro_rules | `(tactic| walk_at "ix") => `(tactic| first | rfl | (exact L2.atI_nat (by assumption)) | assumption)
local macro_rules | `(tactic| walk_at "cond") => `(tactic| first
  | exact Or.inl (by decide) | exact Or.inr (by decide) | exact Or.inl ⟨by omega, by omega⟩ | exact Or.inr ⟨by omega, by omega⟩
  | (constructor <;> omega) | (show _ ≠ _; omega) | decide | omega)
local macro_rules | `(tactic| walk_at "r1") => `(tactic| first
  | with_reducible refine R.seq ?_ | with_reducible refine R.asg ?_ | with_reducible refine R.ifs ?_ | with_reducible refine R.ret ?_ | with_reducible refine R.retN ?_ | with_reducible refine R.drop ?_ | with_reducible refine R.next ?_
  | with_reducible refine R.op ?_ | ((with_reducible refine R.var (v := ?v) ?h ?q); case h => rfl) | with_reducible refine R.c ?_ | with_reducible refine R.tst ?_ | with_reducible refine R.tb_ ?_ | with_reducible refine R.ex ?_
  | with_reducible refine R.i0 ?_ | with_reducible refine R.eqI ?_ | with_reducible refine R.neI ?_ | ((with_reducible refine R.ic ?_ ?_); · walk_at "cond") | with_reducible refine R.u0 ?_ | with_reducible refine R.un ?_
  | ((with_reducible refine R.eq ?_ ?_); · rfl) | ((with_reducible refine R.ne ?_ ?_); · rfl)
  | with_reducible refine R.and_ ?_ | with_reducible refine R.or_ ?_ | with_reducible refine R.not_ ?_ | with_reducible refine R.ife ?_ | with_reducible refine R.chain ?_
  | with_reducible refine R.cons ?_ | with_reducible refine R.nil ?_ | with_reducible refine R.call ?_ | with_reducible refine R.cb ?_ | with_reducible refine R.bm ?_
  | with_reducible refine R.gname ?_ | with_reducible refine R.gsub ?_ | with_reducible refine R.gnil ?_ | with_reducible refine R.gcons ?_ | with_reducible refine R.yes ?_
  | with_reducible refine R.int1 ?_ | ((with_reducible refine R.lenL (xs := ?xs) ?h ?q); case h => walk_at "at")
  | ((with_reducible refine R.ixL (xs := ?xs) (v := ?v) ?h ?e ?q); (case h => walk_at "at"); (case e => walk_at "ix"))
  | ((with_reducible refine R.setL (xs := ?xs) (n := ?n) ?h ?e ?q); (case h => walk_at "at"); (case e => rfl))
  | ((with_reducible refine R.append (xs := ?xs) ?h ?e ?q); (case h => walk_at "at"); (case e => walk_at "cond"))
  | with_reducible refine R.is_ ?_ | with_reducible refine R.isnot ?_ | with_reducible refine R.andV ?_ | with_reducible refine R.orV ?_ | with_reducible refine R.notV ?_
  | ((with_reducible refine R.isi (s := ?s) (b := ?b) ?ty ?h ?q); (case ty => walk_at "ty"); (case h => walk_at "kit"))
  | ((with_reducible refine R.addS ?h ?q); (case h => walk_at "sz")) | with_reducible refine R.max2 ?_ | with_reducible refine R.min2 ?_
  | ((with_reducible refine R.lenStr ?h ?q); (case h => walk_at "szl")) | ((with_reducible refine R.ixS (n := ?n) ?h ?e ?q); (case h => walk_at "szl"); (case e => walk_at "ix"))
  | ((with_reducible refine R.tyl (xs := ?xs) ?h ?q); (case h => walk_at "at")) | with_reducible refine R.itlist ?_ | with_reducible refine R.ittup ?_ | with_reducible refine R.m1 ?_ | with_reducible refine R.m1s ?_ | with_reducible refine R.leS ?_ | with_reducible refine R.itstr ?_ | with_reducible refine R.itstrE ?_ | with_reducible refine R.lc ?_ | with_reducible refine R.for_ ?_ | ((with_reducible refine R.all_ (bs := ?bs) ?h ?q); (case h => walk_at "at"))
  | with_reducible refine R.rng1 ?_ | ((with_reducible refine R.rngE ?h ?q); (case h => (constructor <;> omega)))
  | ((with_reducible refine R.lenT (xs := ?xs) ?h ?q); (case h => walk_at "sqt")) | ((with_reducible refine R.ixT (xs := ?xs) (v := ?v) ?h ?e ?q); (case h => walk_at "sqt"); (case e => walk_at "ix"))
  | ((refine R.itlE (xs := ?xs) ?h ?q); (case h => walk_at "at")) | ((refine R.ittE (xs := ?xs) ?h ?q); (case h => walk_at "at"))
  | ((refine R.gseq (xs := ?xs) ?h ?e ?q); (case h => walk_at "sqa"); (case e => rfl)) | ((refine R.ixA (xs := ?xs) (v := ?v) ?h ?e ?q); (case h => walk_at "sqa"); (case e => walk_at "ix")) | ((refine R.lenA (xs := ?xs) ?h ?q); (case h => walk_at "sqa"))
  | ((with_reducible refine R.gtup (xs := ?xs) ?h ?e ?q); (case h => walk_at "sqt"); (case e => rfl))
  | with_reducible refine R.din_ ?_ | with_reducible refine R.dput_ ?_
  | with_reducible refine R.sfld ?_ | with_reducible refine R.fld_ ?_ | with_reducible refine R.dc ?_
  | with_reducible refine R.dget1_ ?_
  | with_reducible refine R.itseq ?_ | with_reducible refine R.itenum ?_
  | with_reducible refine R.itT ?_ | with_reducible refine R.itF ?_ | with_reducible refine R.itNT ?_ | with_reducible refine R.itNF ?_
  | (with_reducible refine R.tup ?_) | (with_reducible refine R.lst ?_))
local macro_rules | `(tactic| walk_at "rd") => `(tactic| (repeat (first | walk_at "r1" | (dsimp only [Int.reduceToNat, List.set_cons_succ, List.set_cons_zero, List.length_cons, List.length_nil, List.nil_append, List.cons_append, List.append_nil]))))
local macro_rules | `(tactic| walk_at "go") => `(tactic| (rw [R.start_eq]; dsimp only [R.startE, List.map_nil]; walk_at "rd"))
namespace KN
open PySem L2 SX R
open C8 (Cal Def cal0 pe_c pe_gc fnScope fnBody pss_cut)
section
variable {P : Program} {w : World} {K : PySem.W.Frag} {mg : Str → Option Value} {base : Heap}
abbrev sRefd : Stmt := top 27
theorem scRefd : FnScope ["pool", "simple", "multipliers", "kind", "rows", "told", "many", "six", "again", "at", "k"] ["pool", "simple", "multipliers"] (fnScope sRefd) := ⟨rfl, rfl, rfl, by decide +kernel, rfl, by decide +kernel, by decide +kernel⟩
theorem rowsIn_of {H : Hp} {a : Addr} {xs : List V} {ds : List (List V)} (h : SeqA H a xs) (t : TupsAt H xs ds) : RowsIn H a ds :=
  ⟨xs, h, t.len, fun i d e => by obtain ⟨b, hb, hbt⟩ := t.get i d e; exact ⟨b, hb, Or.inr hbt⟩⟩
theorem r_fault {a c : Addr} {H : Hp} {Q : VK} {E : XK} {ds es : List (List V)} {p n r : V} (hA : RowsIn H a ds) (hC : RowsIn H c es) (hf : Fault ds es p n r) (k : ∀ t H', Same H H' → H' t = some (.tup [p, n, r]) → Q (.ref t) H') : spTold [.ref a, .ref c] H Q E := ⟨a, c, ds, es, rfl, hA, hC, .inl ⟨p, n, r, hf, k⟩⟩
theorem r_fine {a c : Addr} {H : Hp} {Q : VK} {E : XK} {rs : List SR} {ms : List MR} (hA : RowsIn H a (rs.map srV)) (hC : RowsIn H c (ms.map mrV)) (hg : GoodSys rs ms) (k : ∀ H', Same H H' → Q .non H') : spTold [.ref a, .ref c] H Q E := ⟨a, c, _, _, rfl, hA, hC, .inr ⟨rs, ms, rfl, rfl, hg, k⟩⟩
theorem r_same3 {t u : Addr} {H : Hp} {Q : VK} {E : XK} {x y z : V} (ht : H t = some (.tup [x, y, z])) (hu : H u = some (.tup [x, y, z])) (sx : Scal x) (sy : Scal y) (sz : Scal z) (k : ∀ H', Same H H' → Q (.bl true) H') : spSame 2 [.ref t, .ref u] H Q E := by
  refine ⟨_, _, rfl, .inr (.inl ⟨t, u, _, _, rfl, rfl, ht, hu, rfl, by show 3 ≤ 1000; decide, fun i a b ha hb => ?_⟩), k⟩
  rw [ha] at hb
  cases hb
  have hm := List.mem_of_getElem? ha
  simp only [List.mem_cons, List.not_mem_nil, or_false] at hm
  rcases hm with rfl | rfl | rfl
  · exact .inl ⟨rfl, sx⟩
  · exact .inl ⟨rfl, sy⟩
  · exact .inl ⟨rfl, sz⟩
theorem catN {H : Hp} {Q : VK} {K : PySem.W.Frag} {a b : Addr} {x y : V} {xs ys : List V} (h1 : H a = some (.tup (x :: xs))) (h2 : H b = some (.tup (y :: ys))) (hz : (x :: xs).length + (y :: ys).length ≤ sizeLine) (q : ∀ p H', Same H H' → H' p = some (.tup (x :: xs ++ y :: ys)) → Q (.ref p) H') : rCatA K (.ref a) (.ref b) H Q :=
  ⟨a, b, _, _, rfl, rfl, SqT.of h1, SqT.of h2, hz, (fun e => nomatch e), (fun _ e => nomatch e), fun _ _ p hp => q p _ (same_new (Same.refl H) hp) upd_same⟩
theorem catLN {H : Hp} {Q : VK} {a b : Addr} {xs ys : List V} (h1 : H a = some (.lst xs)) (h2 : H b = some (.lst ys)) (hz : xs.length + ys.length ≤ 1000) (q : ∀ p H', Same H H' → H p = none → H' p = some (.lst (xs ++ ys)) → Q (.ref p) H') : rCat (.ref a) (.ref b) H Q :=
  catL h1 h2 (Nat.le_trans hz (by decide)) fun p hp => q p _ (same_new (Same.refl H) hp) hp upd_same
theorem slLN {H : Hp} {a : Addr} {xs : List V} {lo hi : Option Int} {Q : VK} {K : PySem.W.Frag} (h : H a = some (.lst xs)) (q : ∀ p H', Same H H' → H p = none → H' p = some (.lst (cutV xs lo hi)) → Q (.ref p) H') : rSlL K (.ref a) lo hi H Q :=
  slL h fun p hp => q p _ (same_new (Same.refl H) hp) hp upd_same
theorem elem_tup {H1 H : Hp} {D a : Addr} {ws : List V} {ds : List (List V)} {T : List V} (s2 : Same H1 H) (hD : H1 D = none) (hws : H D = some (.lst ws)) (ht : TupsAt H ws ds) (ha : H a = none) (hn : ds.length < 1000) :
    ∃ acc, upd H a (.tup T) D = some (.lst acc) ∧ acc.length < sizeLine ∧ Same H1 (upd (upd H a (.tup T)) D (.lst (acc ++ [.ref a]))) ∧ ∃ ws', upd (upd H a (.tup T)) D (.lst (acc ++ [.ref a])) D = some (.lst ws') ∧ TupsAt (upd (upd H a (.tup T)) D (.lst (acc ++ [.ref a]))) ws' (ds ++ [T]) := by
  have Da : D ≠ a := ne_of_none hws ha
  have s3 : Same H (upd H a (.tup T)) := same_new (Same.refl _) ha
  have hD1 : upd H a (.tup T) D = some (.lst ws) := s3 _ _ hws
  refine ⟨ws, hD1, small1000 (by rw [ht.len]; omega), same_put (s2.trans s3) hD, _, upd_same, TupsAt.snoc (keep_list hD1 _ _ upd_same) ((ht.keep fun b d h => s3 _ _ h).keep (keep_list hD1))⟩
theorem truL {K : PySem.W.Frag} {H : Hp} {a : Addr} {xs : List V} {QB : Bool → Prop} (h : H a = some (.lst xs)) (q : QB (!xs.isEmpty)) : ∃ k, TruV K (.ref a) H k ∧ QB k := ⟨_, .inl ⟨xs, SqL.of h, rfl⟩, q⟩
theorem isE {xs : List V} (h : ¬ xs.isEmpty = true) : xs.isEmpty = false ∧ 0 < xs.length := by
  cases xs with
  | nil => exact absurd rfl h
  | cons a t => exact ⟨rfl, by simp⟩
theorem good71 {z : Str} (h : GoodW z) : GoodM ⟨z, 7, some 1, false, 0⟩ := ⟨h, (by decide : (2 : Int) ≤ 7), (by decide : (7 : Int) ≤ 100000), (fun c h => by cases h; exact ⟨by decide, by decide, (by decide : (1 * 7 + 0 : Int) ≤ 100000)⟩), (by decide : (0 : Int) ≤ 0), (by decide : (0 : Int) < 7)⟩
theorem good7n {z : Str} (h : GoodW z) : GoodM ⟨z, 7, none, false, 0⟩ := ⟨h, (by decide : (2 : Int) ≤ 7), (by decide : (7 : Int) ≤ 100000), (fun c h => by cases h), (by decide : (0 : Int) ≤ 0), (by decide : (0 : Int) < 7)⟩
theorem good7s {z : Str} (h : GoodW z) : GoodS ⟨z, 7⟩ := ⟨h, (by decide : (1 : Int) ≤ 7), (by decide : (7 : Int) ≤ 100000)⟩
structure RS (H0 H : Hp) (p l s m : Addr) (xs ys : List V) (rs : List SR) (ms : List MR) : Prop where
  e : SameBut p H0 H
  P : PoolAt H p l
  hs : H s = some (.lst xs)
  hm : H m = some (.lst ys)
  ts : TupsAt H xs (rs.map srV)
  tm : TupsAt H ys (ms.map mrV)
theorem RS.same {H0 H H' : Hp} {p l s m : Addr} {xs ys : List V} {rs : List SR} {ms : List MR} (h : RS H0 H p l s m xs ys rs ms) (q : Same H H') : RS H0 H' p l s m xs ys rs ms :=
  ⟨h.e.trans (SameBut.of q), h.P.same q, q _ _ h.hs, q _ _ h.hm, h.ts.keep fun a d z => q _ _ z, h.tm.keep fun a d z => q _ _ z⟩
theorem RS.take {H0 H H' : Hp} {p l s m : Addr} {xs ys : List V} {rs : List SR} {ms : List MR} (h : RS H0 H p l s m xs ys rs ms) (sp : s ≠ p) (mp : m ≠ p) (q : SameBut p H H') (P : PoolAt H' p l) : RS H0 H' p l s m xs ys rs ms :=
  ⟨h.e.trans q, P, q _ _ sp h.hs, q _ _ mp h.hm, h.ts.keep (keep_pool h.P q), h.tm.keep (keep_pool h.P q)⟩
def RowsR (R : List V → Option Str → Prop) (ds : List (List V)) (os : List (Option Str)) : Prop := os.length = ds.length ∧ ∀ (i : Nat) (d : List V) (o : Option Str), ds[i]? = some d → os[i]? = some o → R d o
theorem RowsR.app {R : List V → Option Str → Prop} {ds es : List (List V)} {os us : List (Option Str)} (h : RowsR R ds os) (g : RowsR R es us) : RowsR R (ds ++ es) (os ++ us) := by
  refine ⟨by rw [List.length_append, List.length_append, h.1, g.1], fun i d o h1 h2 => ?_⟩
  by_cases hi : i < ds.length
  · rw [List.getElem?_append_left hi] at h1
    rw [List.getElem?_append_left (by rw [h.1]; exact hi)] at h2
    exact h.2 i d o h1 h2
  · rw [List.getElem?_append_right (by omega)] at h1
    rw [List.getElem?_append_right (by rw [h.1]; omega), h.1] at h2
    exact g.2 _ d o h1 h2
theorem RowsR.one {R : List V → Option Str → Prop} {d : List V} {o : Option Str} (h : R d o) : RowsR R [d] [o] := ⟨rfl, fun i d' o' h1 h2 => by
  cases i with
  | zero => cases h1; cases h2; exact h
  | succ n => cases h1⟩
theorem at_bad {a b : Nat} {j : Nat} (ha : a = j) {z : Str} : (List.replicate a (none : Option Str) ++ [some z] ++ List.replicate b none)[j]? = some (some z) := by
  subst ha
  rw [List.getElem?_append_left (by simp), List.getElem?_append_right (by simp)]
  simp
theorem before_bad {a b : Nat} {j : Nat} (ha : a = j) {z : Str} (i : Nat) (hi : i < j) : (List.replicate a (none : Option Str) ++ [some z] ++ List.replicate b none)[i]? = some none := by
  subst ha
  rw [List.getElem?_append_left (by simp; omega), List.getElem?_append_left (by simpa using hi), List.getElem?_replicate, if_pos hi]
theorem f_bads {rs : List SR} {es : List (List V)} {bad : List V} {z : Str} {j : Nat} (g : ∀ r ∈ rs, GoodS r) (hl : rs.length < 24) (hj : j ≤ rs.length) (hb : SShape bad) (hz : sF bad = some z) :
    Fault ((rs.map srV).take j ++ [bad] ++ (rs.map srV).drop j) es (.str "simple") (.int j) (.str z) := by
  rw [← List.map_take, ← List.map_drop]
  have h1 := srows_good (rs := rs.take j) fun r h => g r (List.mem_of_mem_take h)
  have h2 := srows_good (rs := rs.drop j) fun r h => g r (List.mem_of_mem_drop h)
  have hr : SRows ((rs.take j).map srV ++ [bad] ++ (rs.drop j).map srV) _ := ((show RowsR (fun d o => SShape d ∧ o = sF d) _ _ from h1).app (.one ⟨hb, hz.symm⟩)).app h2
  have lt : (rs.take j).length = j := by rw [List.length_take]; omega
  exact .row1 hr (by simp; omega) (at_bad lt) (before_bad lt)
theorem f_badm {rs : List SR} {ms : List MR} {bad : List V} {z : Str} {j : Nat} (gs : ∀ r ∈ rs, GoodS r) (gl : rs.length ≤ 24) (g : ∀ r ∈ ms, GoodM r) (hl : ms.length < 6) (hj : j ≤ ms.length) (hb : MShape bad (some z)) :
    Fault (rs.map srV) ((ms.map mrV).take j ++ [bad] ++ (ms.map mrV).drop j) (.str "multipliers") (.int j) (.str z) := by
  rw [← List.map_take, ← List.map_drop]
  have h1 := mrows_good (ms := ms.take j) fun r h => g r (List.mem_of_mem_take h)
  have h2 := mrows_good (ms := ms.drop j) fun r h => g r (List.mem_of_mem_drop h)
  have hr : MRows ((ms.take j).map mrV ++ [bad] ++ (ms.drop j).map mrV) _ := ((show RowsR MShape _ _ from h1).app (.one hb)).app h2
  have lt : (ms.take j).length = j := by rw [List.length_take]; omega
  exact .row2 gs gl hr (by simp; omega) (at_bad lt) (before_bad lt)
theorem f_twice {rs : List SR} {ms : List MR} {j : Nat} {m7 : MR} (hg : GoodSys rs ms) (hl : ms.length < 6) (hj : j ≤ ms.length) (g7 : GoodM m7) (hm : m7.w ∈ rs.map (·.w) ++ (ms.take j).map (·.w)) :
    Fault (rs.map srV) ((ms.take j ++ [m7] ++ ms.drop j).map mrV) (.str "multipliers") (.int j) (.str "twice") := by
  have lt : (ms.take j).length = j := by rw [List.length_take]; omega
  have lr : (rs.map (·.w)).length = rs.length := List.length_map _
  have e1 : (rs.map (·.w) ++ (ms.take j ++ [m7] ++ ms.drop j).map (·.w)).take (rs.length + j) = rs.map (·.w) ++ (ms.take j).map (·.w) := by
    rw [List.map_append, List.map_append, List.append_assoc, ← List.append_assoc]
    exact List.take_left' (by simp; omega)
  have e2 : (rs.map (·.w) ++ (ms.take j ++ [m7] ++ ms.drop j).map (·.w))[rs.length + j]? = some m7.w := by
    rw [List.getElem?_append_right (by rw [lr]; omega), lr, show rs.length + j - rs.length = j by omega, List.map_append, List.map_append, List.append_assoc, List.getElem?_append_right (by simp; omega)]
    rw [List.length_map, lt, Nat.sub_self]
    rfl
  have f := Fault.twice (rs := rs) (ms := ms.take j ++ [m7] ++ ms.drop j) hg.s hg.sl (fun r h => by
    simp only [List.mem_append, List.mem_singleton] at h
    rcases h with (h | rfl) | h
    · exact hg.m r (List.mem_of_mem_take h)
    · exact g7
    · exact hg.m r (List.mem_of_mem_drop h)) (by simp; omega) e2 (by
      rw [e1]
      exact hg.nd.sublist ((List.take_sublist j ms).map _ |>.append_left _)) (by rw [e1]; exact hm)
  unfold partV ixV at f
  rw [if_neg (by omega), if_neg (by omega), show rs.length + j - rs.length = j by omega] at f
  exact f
theorem f_twice_s {r0 : SR} {rs : List SR} (hg : ∀ r ∈ r0 :: rs, GoodS r) (hn : ((r0 :: rs).map (·.w)).Nodup) (r7 : SR) (g7 : GoodS r7) (e7 : r7.w = r0.w) :
    Fault (((r0 :: rs).take 23 ++ [r7]).map srV) [] (.str "simple") (.int ((r0 :: rs).take 23).length) (.str "twice") := by
  generalize hq : (r0 :: rs).take 23 = q
  have lq : q.length ≤ 23 := by rw [← hq, List.length_take]; omega
  have hm : r0.w ∈ q.map (·.w) := by rw [← hq, List.take_cons (by decide)]; exact List.mem_cons_self
  have gq : ∀ r ∈ q, GoodS r := fun r h => hg r (by rw [← hq] at h; exact List.mem_of_mem_take h)
  have nq : (q.map (·.w)).Nodup := by rw [← hq]; exact hn.sublist ((List.take_sublist _ _).map _)
  have e1 : ((q ++ [r7]).map (·.w) ++ ([] : List MR).map (·.w)).take q.length = q.map (·.w) := by
    rw [List.map_nil, List.append_nil, List.map_append]
    exact List.take_left' (by simp)
  have f := Fault.twice (rs := q ++ [r7]) (ms := []) (i := q.length) (z := r0.w) (fun r h => by
    simp only [List.mem_append, List.mem_singleton] at h
    rcases h with h | rfl
    · exact gq r h
    · exact g7) (by simp; omega) (fun r h => nomatch h) (by simp) (by simp [e7]) (by rw [e1]; exact nq) (by rw [e1]; exact hm)
  unfold partV ixV at f
  rw [if_pos (by simp), if_pos (by simp)] at f
  exact f
abbrev abc : Str := "abcdefghijklmnopqrstuvwxy"
theorem abc_at : ∀ k, k < 25 → (Str.ofString "abcdefghijklmnopqrstuvwxy").cps.toList[k]? = some (97 + k) := by decide +kernel
theorem abc_at6 : ∀ k, k < 6 → (Str.ofString "abcdef").cps.toList[k]? = some (97 + k) := by decide +kernel
theorem range_snoc {α : Type} (f : Nat → α) (i : Nat) : (List.range (i + 1)).map f = (List.range i).map f ++ [f i] := by rw [List.range_succ, List.map_append]; rfl
def manyR (k : Nat) : SR := ⟨⟨#[97 + k]⟩ ++ "q", 1 + (k : Int)⟩
def sixR (k : Nat) : MR := ⟨⟨#[97 + k]⟩ ++ "zz", 2 + (k : Int), some 1, true, (k : Int)⟩
theorem manyR_good : ∀ r ∈ (List.range 25).map manyR, GoodS r := by
  intro r h
  obtain ⟨k, hk, rfl⟩ := List.mem_map.mp h
  rw [List.mem_range] at hk
  refine ⟨goodW_of ?_ ?_, ?_, ?_⟩
  · have : ∀ k, k < 25 → okWord (manyR k).w = true := by decide +kernel
    exact this k hk
  · have : ∀ k, k < 25 → (manyR k).w.length ≠ 5 := by decide +kernel
    exact this k hk
  · show 1 ≤ 1 + (k : Int); omega
  · show 1 + (k : Int) ≤ 100000; omega
theorem sixR_good : ∀ r ∈ (List.range 6).map sixR, GoodM r := by
  intro r h
  obtain ⟨k, hk, rfl⟩ := List.mem_map.mp h
  rw [List.mem_range] at hk
  refine ⟨goodW_of ?_ ?_, ?_, ?_, fun c h => ?_, ?_, ?_⟩
  · have : ∀ k, k < 6 → okWord (sixR k).w = true := by decide +kernel
    exact this k hk
  · have : ∀ k, k < 6 → (sixR k).w.length ≠ 5 := by decide +kernel
    exact this k hk
  · show 2 ≤ 2 + (k : Int); omega
  · show 2 + (k : Int) ≤ 100000; omega
  · cases h
    refine ⟨by decide, by decide, ?_⟩
    show 1 * (2 + (k : Int)) + (k : Int) ≤ 100000
    omega
  · show 0 ≤ (k : Int); omega
  · show (k : Int) < 2 + (k : Int); omega
theorem both_good : GoodSys (((List.range 25).map manyR).take 24) ((List.range 6).map sixR) :=
  ⟨fun r h => manyR_good r (List.mem_of_mem_take h), sixR_good, by decide +kernel, by decide, by decide, by decide +kernel⟩
def aM : MR := ⟨"a", 2, some 1, true, 0⟩
theorem aM_good : GoodM aM := ⟨goodW_of (by decide +kernel) (by decide +kernel), by decide, by decide, (fun c h => by cases h; exact ⟨by decide, by decide, by decide⟩), by decide, by decide⟩
theorem f_many1 : Fault (((List.range 25).map manyR).map srV) [] (.str "simple") .non (.str "many") :=
  .many1 (srows_good manyR_good) (by decide) (by decide)
theorem f_many2 {rs : List SR} (g : ∀ r ∈ rs, GoodS r) (gl : rs.length ≤ 24) : Fault (rs.map srV) (((List.range 6).map sixR ++ [aM]).map mrV) (.str "multipliers") .non (.str "many") :=
  .many2 g gl (mrows_good (ms := (List.range 6).map sixR ++ [aM]) (fun r h => by
    rw [List.mem_append, List.mem_singleton] at h
    rcases h with h | rfl
    · exact sixR_good r h
    · exact aM_good)) (by decide) (by decide)
def zR : List MR := [⟨"zza", 5, none, false, 0⟩, ⟨"zzb", 5, some 1, false, 0⟩, ⟨"zzc", 6, none, true, 5⟩]
theorem f_endless : Fault [] (zR.map mrV) (.str "multipliers") (.int 2) (.str "endless") :=
  Fault.endless (rs := []) (ms := zR) (i := 2) (fun r h => nomatch h) (by decide) (fun r h => by
    simp only [zR, List.mem_cons, List.not_mem_nil, or_false] at h
    rcases h with rfl | rfl | rfl
    · exact ⟨goodW_of (by decide +kernel) (by decide +kernel), by decide, by decide, (fun c h => by cases h), by decide, by decide⟩
    · exact ⟨goodW_of (by decide +kernel) (by decide +kernel), by decide, by decide, (fun c h => by cases h; exact ⟨by decide, by decide, by decide⟩), by decide, by decide⟩
    · exact ⟨goodW_of (by decide +kernel) (by decide +kernel), by decide, by decide, (fun c h => by cases h), by decide, by decide⟩) (by decide) (by decide +kernel) rfl rfl
def spRefd : Sp := fun vs H Q _ => ∃ (p l s m : Addr) (xs ys : List V) (rs : List SR) (ms : List MR), vs = [.ref p, .ref s, .ref m] ∧ PoolAt H p l ∧ H s = some (.lst xs) ∧ H m = some (.lst ys) ∧ s ≠ p ∧ m ≠ p ∧
  TupsAt H xs (rs.map srV) ∧ TupsAt H ys (ms.map mrV) ∧ GoodSys rs ms ∧ ∀ H', SameBut p H H' → Q (.bl true) H'
theorem c_is_refused (Z : Zs mg) (c_take : Cal P w K mg base 2 "_law_take" spTake []) (c_bad_simple : Cal P w K mg base 3 "_law_bad_simple" spBads []) (c_bad_multiplier : Cal P w K mg base 3 "_law_bad_multiplier" spBadm []) (c_told : Cal P w K mg base 6 "_law_told" spTold [])
    (c_same : Cal P w K mg base 4 "_law_same" (spSame 2) []) {f : Addr} {fd : FuncData} (F : Def K mg "_law_is_refused" sRefd f fd) (b : Binds K fd ["pool", "simple", "multipliers"] []) : Cal P w K mg base 7 "_law_is_refused" spRefd [] := by
  refine cal0 F b .nil scRefd (fun vs H Q E h => ?_) (fun cdv A outer s H vs Q E hr h => ?_)
  · obtain ⟨p, l, s, m, xs, ys, rs, ms, rfl, _⟩ := h
    rfl
  · obtain ⟨p, l, s, m, xs, ys, rs, ms, rfl, hP, hs, hm, sp, mp, hts, htm, hg, k⟩ := h
    refine ⟨_, pss_cons (ps_set (i := 3) scRefd.nd rfl (Or.inl rfl) (pe_c c_take hr (by omega) (by rfl) (pa_cons (pv 0) (pa_cons pe_int pa_nil))))
      (pss_cut (ps_if (PW.pt (pw_and (pt_cmpR op_eq (pv 3) pe_int (nomark _)) (pw_and1 (pt_cmpR op_lt (pe_callB (kLen K) (by rfl) Z.len PySem.boot_len (pa_cons (pv 1) pa_nil)) pe_int (nomark _)))))
        (pss_cons (ps_asg (pe_c c_bad_simple hr (by omega) (by rfl) (pa_cons (pv 0) (pa_cons (pv 1) pa_nil))) (kgTup K (n := 2) rfl (pgs_cons (pg_name (i := 4) scRefd.nd rfl (Or.inl rfl)) (pgs_cons (pg_name (i := 5) scRefd.nd rfl (Or.inl rfl)) pgs_nil))))
      (pss_one (ps_ret (pe_c c_same hr (by omega) (by rfl) (pa_cons (pe_c c_told hr (by omega) (by rfl) (pa_cons (pv 4) (pa_cons (pe_op op_cat (pv 2) (pe_lst (pa_cons (pe_tup (pa_cons pe_str pa_nil)) pa_nil))) pa_nil))) (pa_cons (pe_op (kCatT K) (pe_tup (pa_cons pe_str pa_nil)) (pv 5)) pa_nil))))))
        (pss_nil))
      (pss_cut (ps_if (PW.pt (pw_and (pt_cmpR op_eq (pv 3) pe_int (nomark _)) (pw_and1 (pt_cmpR op_lt (pe_callB (kLen K) (by rfl) Z.len PySem.boot_len (pa_cons (pv 2) pa_nil)) pe_int (nomark _)))))
        (pss_cons (ps_asg (pe_c c_bad_multiplier hr (by omega) (by rfl) (pa_cons (pv 0) (pa_cons (pv 2) pa_nil))) (kgTup K (n := 2) rfl (pgs_cons (pg_name (i := 4) scRefd.nd rfl (Or.inl rfl)) (pgs_cons (pg_name (i := 5) scRefd.nd rfl (Or.inl rfl)) pgs_nil))))
      (pss_one (ps_ret (pe_c c_same hr (by omega) (by rfl) (pa_cons (pe_c c_told hr (by omega) (by rfl) (pa_cons (pv 1) (pa_cons (pv 4) pa_nil))) (pa_cons (pe_op (kCatT K) (pe_tup (pa_cons pe_str pa_nil)) (pv 5)) pa_nil))))))
        (pss_nil))
      (pss_cut (ps_if (pt_cmpR op_eq (pv 3) pe_int (nomark _))
        (pss_cons (ps_setLc (i := 6) (own := [("k", 10)]) (g := gName 10) (tt := tYes) rfl scRefd.nd rfl rfl (sw_true rfl rfl rfl (by decide +kernel)) (pi_range1 (by rfl) Z.range (pa_cons pe_int pa_nil)) (blkOk_by (own := [("k", 10)]) (N := ["pool", "simple", "multipliers", "kind", "rows", "told", "many", "six", "again", "at", "k"]) (sc := fnScope sRefd) (by decide +kernel)) (fun _ _ _ _ _ => (pg_name (i := 10) scRefd.nd rfl (Or.inl rfl))) (fun _ _ _ _ _ => pts_nil) (fun _ _ _ _ _ => pe_tup (pa_cons (pe_op oAddS (pe_ix ix_str pe_str (pv 10) (fun _ _ => rfl)) pe_str) (pa_cons (pe_op op_add pe_int (pv 10)) pa_nil))))
      (pss_cons (ps_setLc (i := 7) (own := [("k", 10)]) (g := gName 10) (tt := tYes) rfl scRefd.nd rfl rfl (sw_true rfl rfl rfl (by decide +kernel)) (pi_range1 (by rfl) Z.range (pa_cons pe_int pa_nil)) (blkOk_by (own := [("k", 10)]) (N := ["pool", "simple", "multipliers", "kind", "rows", "told", "many", "six", "again", "at", "k"]) (sc := fnScope sRefd) (by decide +kernel)) (fun _ _ _ _ _ => (pg_name (i := 10) scRefd.nd rfl (Or.inl rfl))) (fun _ _ _ _ _ => pts_nil) (fun _ _ _ _ _ => pe_tup (pa_cons (pe_op oAddS (pe_ix ix_str pe_str (pv 10) (fun _ _ => rfl)) pe_str) (pa_cons (pe_op op_add pe_int (pv 10)) (pa_cons pe_int (pa_cons pe_bl (pa_cons (pv 10) pa_nil)))))))
      (pss_cons (ps_if (PW.pt (pw_or (pt_not (pt_val (pe_c c_same hr (by omega) (by rfl) (pa_cons (pe_c c_told hr (by omega) (by rfl) (pa_cons (pv 6) (pa_cons (pe_lst pa_nil) pa_nil))) (pa_cons (pe_tup (pa_cons pe_str (pa_cons pe_non (pa_cons pe_str pa_nil)))) pa_nil))))) (pw_or1 (pt_cmpR oIsNot (pe_c c_told hr (by omega) (by rfl) (pa_cons (pe_slice (kSlL K) (pv 6) po_none (po_some pe_int)) (pa_cons (pe_callTy (kTuple K) (by rfl) Z.tuple (by decide +kernel) (pa_cons (pv 7) pa_nil)) pa_nil))) pe_non (nomark _)))))
        (pss_one (ps_ret pe_bl))
        (pss_nil))
      (pss_one (ps_ret (pe_c c_same hr (by omega) (by rfl) (pa_cons (pe_c c_told hr (by omega) (by rfl) (pa_cons (pv 1) (pa_cons (pe_op op_cat (pv 7) (pe_lst (pa_cons (pe_tup (pa_cons pe_str (pa_cons pe_int (pa_cons pe_int (pa_cons pe_bl (pa_cons pe_int pa_nil)))))) pa_nil))) pa_nil))) (pa_cons (pe_tup (pa_cons pe_str (pa_cons pe_non (pa_cons pe_str pa_nil)))) pa_nil))))))))
        (pss_nil))
      (pss_cut (ps_if (PW.pt (pw_and (pt_cmpR op_eq (pv 3) pe_int (nomark _)) (pw_and (pt_truth (pv 1) (by intro _; rfl)) (pw_and1 (pt_cmpR op_lt (pe_callB (kLen K) (by rfl) Z.len PySem.boot_len (pa_cons (pv 2) pa_nil)) pe_int (nomark _))))))
        (pss_cons (ps_set (i := 8) scRefd.nd rfl (Or.inl rfl) (pe_ix (kIxT K) (pe_ix (kIxL K) (pv 1) (pe_c c_take hr (by omega) (by rfl) (pa_cons (pv 0) (pa_cons (pe_callB (kLen K) (by rfl) Z.len PySem.boot_len (pa_cons (pv 1) pa_nil)) pa_nil))) (fun _ _ => rfl)) pe_int (fun _ _ => rfl)))
      (pss_cons (ps_set (i := 9) scRefd.nd rfl (Or.inl rfl) (pe_c c_take hr (by omega) (by rfl) (pa_cons (pv 0) (pa_cons (pe_op op_add (pe_callB (kLen K) (by rfl) Z.len PySem.boot_len (pa_cons (pv 2) pa_nil)) pe_int) pa_nil))))
      (pss_cons (ps_set (i := 4) scRefd.nd rfl (Or.inl rfl) (pe_op op_cat (pe_op op_cat (pe_slice (kSlL K) (pv 2) po_none (po_some (pv 9))) (pe_lst (pa_cons (pe_tup (pa_cons (pv 8) (pa_cons pe_int (pa_cons pe_int (pa_cons pe_bl (pa_cons pe_int pa_nil)))))) pa_nil))) (pe_slice (kSlL K) (pv 2) (po_some (pv 9)) po_none)))
      (pss_one (ps_ret (pe_c c_same hr (by omega) (by rfl) (pa_cons (pe_c c_told hr (by omega) (by rfl) (pa_cons (pv 1) (pa_cons (pv 4) pa_nil))) (pa_cons (pe_tup (pa_cons pe_str (pa_cons (pv 9) (pa_cons pe_str pa_nil)))) pa_nil))))))))
        (pss_nil))
      (pss_cut (ps_if (PW.pt (pw_and (pt_cmpR op_eq (pv 3) pe_int (nomark _)) (pw_and1 (pt_truth (pv 1) (by intro _; rfl)))))
        (pss_cons (ps_set (i := 8) scRefd.nd rfl (Or.inl rfl) (pe_lst (pa_cons (pe_tup (pa_cons (pe_ix (kIxT K) (pe_ix (kIxL K) (pv 1) pe_int (fun _ _ => rfl)) pe_int (fun _ _ => rfl)) (pa_cons pe_int pa_nil))) pa_nil)))
      (pss_one (ps_ret (pe_c c_same hr (by omega) (by rfl) (pa_cons (pe_c c_told hr (by omega) (by rfl) (pa_cons (pe_op op_cat (pe_slice (kSlL K) (pv 1) po_none (po_some pe_int)) (pv 8)) (pa_cons (pe_lst pa_nil) pa_nil))) (pa_cons (pe_tup (pa_cons pe_str (pa_cons (pe_callB (kLen K) (by rfl) Z.len PySem.boot_len (pa_cons (pe_slice (kSlL K) (pv 1) po_none (po_some pe_int)) pa_nil)) (pa_cons pe_str pa_nil)))) pa_nil))))))
        (pss_nil))
      (pss_cut (ps_if (PW.pt (pw_and (pt_chain op_lt op_lt pe_int (pe_callB (kLen K) (by rfl) Z.len PySem.boot_len (pa_cons (pv 2) pa_nil)) pe_int) (pw_and1 (pt_cmpR op_eq (pe_c c_take hr (by omega) (by rfl) (pa_cons (pv 0) (pa_cons pe_int pa_nil))) pe_int (nomark _)))))
        (pss_cons (ps_set (i := 8) scRefd.nd rfl (Or.inl rfl) (pe_ix (kIxT K) (pe_ix (kIxL K) (pv 2) (pe_c c_take hr (by omega) (by rfl) (pa_cons (pv 0) (pa_cons (pe_callB (kLen K) (by rfl) Z.len PySem.boot_len (pa_cons (pv 2) pa_nil)) pa_nil))) (fun _ _ => rfl)) pe_int (fun _ _ => rfl)))
      (pss_cons (ps_set (i := 4) scRefd.nd rfl (Or.inl rfl) (pe_op op_cat (pv 2) (pe_lst (pa_cons (pe_tup (pa_cons (pv 8) (pa_cons pe_int (pa_cons pe_non (pa_cons pe_bl (pa_cons pe_int pa_nil)))))) pa_nil))))
      (pss_one (ps_ret (pe_c c_same hr (by omega) (by rfl) (pa_cons (pe_c c_told hr (by omega) (by rfl) (pa_cons (pv 1) (pa_cons (pv 4) pa_nil))) (pa_cons (pe_tup (pa_cons pe_str (pa_cons (pe_callB (kLen K) (by rfl) Z.len PySem.boot_len (pa_cons (pv 2) pa_nil)) (pa_cons pe_str pa_nil)))) pa_nil)))))))
        (pss_nil))
      (pss_cons (ps_set (i := 4) scRefd.nd rfl (Or.inl rfl) (pe_lst (pa_cons (pe_tup (pa_cons pe_str (pa_cons pe_int (pa_cons pe_non (pa_cons pe_bl (pa_cons pe_int pa_nil)))))) (pa_cons (pe_tup (pa_cons pe_str (pa_cons pe_int (pa_cons pe_int (pa_cons pe_bl (pa_cons pe_int pa_nil)))))) (pa_cons (pe_tup (pa_cons pe_str (pa_cons pe_int (pa_cons pe_non (pa_cons pe_bl (pa_cons pe_int pa_nil)))))) pa_nil)))))
      (pss_one (ps_ret (pe_c c_same hr (by omega) (by rfl) (pa_cons (pe_c c_told hr (by omega) (by rfl) (pa_cons (pe_lst pa_nil) (pa_cons (pv 4) pa_nil))) (pa_cons (pe_tup (pa_cons pe_str (pa_cons pe_int (pa_cons pe_str pa_nil)))) pa_nil)))))))))))), ?_⟩
    have lx : xs.length = rs.length := by have := hts.len; rwa [List.length_map] at this
    have ly : ys.length = ms.length := by have := htm.len; rwa [List.length_map] at this
    have gsl := hg.sl
    have gml := hg.ml
    have R0 : RS H H p l s m xs ys rs ms := ⟨SameBut.refl, hP, hs, hm, hts, htm⟩
    walk_at "go"
    refine r_take' hP (by decide) (by decide) (fun H1 kd e1 P1 k0 k1 => ?_)
    have R1 := R0.take sp mp e1 P1
    walk_at "rd"
    have M0 : ∀ H', RS H H' p l s m xs ys rs ms → (fun (σ' : L2.St) (H' : Hp) => σ' = [some (.ref p), some (.ref s), some (.ref m), some (.int kd), none, none, none, none, none, none, none] ∧ RS H H' p l s m xs ys rs ms) [some (.ref p), some (.ref s), some (.ref m), some (.int kd), none, none, none, none, none, none, none] H' := fun H' h => ⟨rfl, h⟩
    refine R.cut (fun (σ' : L2.St) (H' : Hp) => σ' = [some (.ref p), some (.ref s), some (.ref m), some (.int kd), none, none, none, none, none, none, none] ∧ RS H H' p l s m xs ys rs ms) ?_ ?_
    · -- a wrong simple word
      have hs1 := R1.hs
      walk_at "rd"
      refine it (fun hk => ?_) (fun hk => ?_)
      · walk_at "rd"
        refine it (fun hl => ?_) (fun hl => ?_)
        · walk_at "rd"
          refine ⟨p, l, s, xs, rs.map srV, rfl, R1.P, R1.hs, sp, R1.ts, by rw [List.length_map]; exact gsl, fun H2 t s' u j bad z e2 P2 ht hsh hbad hB => ?_⟩
          obtain ⟨hj, hu, xs', hs', ht'⟩ := hB
          have R2 := R1.take sp mp e2 P2
          refine R.gtup (SqT.of ht) rfl ?_
          refine R.gcons ?_
          refine R.gname ?_
          refine R.gcons ?_
          refine R.gname ?_
          refine R.gnil ?_
          dsimp only [List.set_cons_succ, List.set_cons_zero, List.map_nil]
          walk_at "rd"
          refine ⟨by decide, fun a an => ?_⟩; have s3 : Same H2 (upd H2 a (.tup [V.str (Str.ofString "!")])) := same_new (Same.refl _) an; have a3 : upd H2 a (.tup [V.str (Str.ofString "!")]) a = some (.tup [V.str (Str.ofString "!")]) := upd_same; generalize upd H2 a (.tup [V.str (Str.ofString "!")]) = H3 at s3 a3
          walk_at "rd"
          refine ⟨by decide, fun c cn => ?_⟩; have s4 : Same H3 (upd H3 c (.lst [V.ref a])) := same_new (Same.refl _) cn; have c4 : upd H3 c (.lst [V.ref a]) c = some (.lst [V.ref a]) := upd_same; generalize upd H3 c (.lst [V.ref a]) = H4 at s4 c4
          have R4 := (R2.same s3).same s4
          refine catLN R4.hm c4 (by show _ + 1 ≤ 1000; omega) fun d H5 s5 _ d5 => ?_
          have R5 := R4.same s5
          have s25 := (s3.trans s4).trans s5
          walk_at "rd"
          refine r_fault (rowsIn_of (.inl (s25 _ _ hs')) (ht'.keep fun _ _ h => s25 _ _ h)) (rowsIn_of (.inl d5) (R5.tm.snoc ((s4.trans s5) _ _ a3))) (f_bads hg.s (by omega) (by rwa [List.length_map] at hj) hsh hbad) fun t6 H6 s6 h6 => ?_
          walk_at "rd"
          refine ⟨by decide, fun b7 b7n => ?_⟩; have s7 : Same H6 (upd H6 b7 (.tup [V.str (Str.ofString "simple")])) := same_new (Same.refl _) b7n; have h7 : upd H6 b7 (.tup [V.str (Str.ofString "simple")]) b7 = some (.tup [V.str (Str.ofString "simple")]) := upd_same; generalize upd H6 b7 (.tup [V.str (Str.ofString "simple")]) = H7 at s7 h7
          walk_at "rd"
          refine catN h7 (((s25.trans s6).trans s7) _ _ hu) (by show 1 + 2 ≤ sizeLine; decide) fun q H8 s8 h8 => ?_
          refine R.nil ?_
          refine r_same3 ((s7.trans s8) _ _ h6) h8 (.str _) (.int _) (.str _) fun H9 s9 => ?_
          exact k _ ((((R5.same s6).same s7).same s8).same s9).e
        · walk_at "rd"
          exact ⟨rfl, R1⟩
      · walk_at "rd"
        exact ⟨rfl, R1⟩
    rintro _ H1 ⟨rfl, R1⟩
    clear e1 P1
    refine R.cut (fun (σ' : L2.St) (H' : Hp) => σ' = [some (.ref p), some (.ref s), some (.ref m), some (.int kd), none, none, none, none, none, none, none] ∧ RS H H' p l s m xs ys rs ms) ?_ ?_
    · -- a wrong multiplier
      have hm1 := R1.hm
      walk_at "rd"
      refine it (fun hk => ?_) (fun hk => ?_)
      · walk_at "rd"
        refine it (fun hl => ?_) (fun hl => ?_)
        · walk_at "rd"
          refine ⟨p, l, m, ys, ms.map mrV, rfl, R1.P, R1.hm, mp, R1.tm, by rw [List.length_map]; omega, fun H2 t s' u j bad z e2 P2 ht hbad hB => ?_⟩
          obtain ⟨hj, hu, xs', hs', ht'⟩ := hB
          have R2 := R1.take sp mp e2 P2
          refine R.gtup (SqT.of ht) rfl ?_
          refine R.gcons ?_
          refine R.gname ?_
          refine R.gcons ?_
          refine R.gname ?_
          refine R.gnil ?_
          dsimp only [List.set_cons_succ, List.set_cons_zero, List.map_nil]
          walk_at "rd"
          refine r_fault (rowsIn_of (.inl R2.hs) R2.ts) (rowsIn_of (.inl hs') ht') (f_badm hg.s gsl hg.m (by omega) (by rwa [List.length_map] at hj) hbad) fun t6 H6 s6 h6 => ?_
          walk_at "rd"
          refine ⟨by decide, fun b7 b7n => ?_⟩; have s7 : Same H6 (upd H6 b7 (.tup [V.str (Str.ofString "multipliers")])) := same_new (Same.refl _) b7n; have h7 : upd H6 b7 (.tup [V.str (Str.ofString "multipliers")]) b7 = some (.tup [V.str (Str.ofString "multipliers")]) := upd_same; generalize upd H6 b7 (.tup [V.str (Str.ofString "multipliers")]) = H7 at s7 h7
          walk_at "rd"
          refine catN h7 ((s6.trans s7) _ _ hu) (by show 1 + 2 ≤ sizeLine; decide) fun q H8 s8 h8 => ?_
          refine R.nil ?_
          refine r_same3 ((s7.trans s8) _ _ h6) h8 (.str _) (.int _) (.str _) fun H9 s9 => ?_
          exact k _ ((((R2.same s6).same s7).same s8).same s9).e
        · walk_at "rd"
          exact ⟨rfl, R1⟩
      · walk_at "rd"
        exact ⟨rfl, R1⟩
    rintro _ H1 ⟨rfl, R1⟩
    refine R.cut (fun (σ' : L2.St) (H' : Hp) => σ' = [some (.ref p), some (.ref s), some (.ref m), some (.int kd), none, none, none, none, none, none, none] ∧ RS H H' p l s m xs ys rs ms) ?_ ?_
    · -- too many
      walk_at "rd"
      refine it (fun hk => ?_) (fun hk => ?_)
      · walk_at "rd"
        intro D hD
        refine lc_it walk_range (fun i H' => Same H1 H' ∧ ∃ ws, H' D = some (.lst ws) ∧ TupsAt H' ws (((List.range i).map manyR).map srV)) ⟨same_new (Same.refl _) hD, [], upd_same, .nil⟩ (fun _ _ _ _ => trivial) ?_ ?_
        · rintro i x H2 H2' hi ⟨s2, ws, hws, hts2⟩ ⟨rfl, rfl⟩
          refine R.gname ⟨rfl, ?_⟩
          walk_at "rd"
          rw [Int.zero_add]
          refine R.ixS (by decide) (atI_nat (abc_at i (by omega))) ?_
          walk_at "rd"
          refine R.addS (by show 1 + 1 ≤ sizeLine; decide) ?_
          walk_at "rd"
          refine ⟨by show 2 ≤ sizeLine; decide, fun a ha => ?_⟩
          rw [range_snoc, List.map_append]
          exact elem_tup s2 hD hws hts2 ha (by rw [List.length_map, List.length_map, List.length_range]; omega)
        · rintro H2 ⟨s2, ws, hws, hts2⟩
          have R2 := R1.same s2
          walk_at "rd"
          intro D6 hD6
          refine lc_it walk_range (fun i H' => Same H2 H' ∧ ∃ us, H' D6 = some (.lst us) ∧ TupsAt H' us (((List.range i).map sixR).map mrV)) ⟨same_new (Same.refl _) hD6, [], upd_same, .nil⟩ (fun _ _ _ _ => trivial) ?_ ?_
          · rintro i x H3 H3' hi ⟨s3, us, hus, hts3⟩ ⟨rfl, rfl⟩
            refine R.gname ⟨rfl, ?_⟩
            walk_at "rd"
            rw [Int.zero_add]
            refine R.ixS (by decide) (atI_nat (abc_at6 i (by omega))) ?_
            walk_at "rd"
            refine R.addS (by show 1 + 2 ≤ sizeLine; decide) ?_
            walk_at "rd"
            refine ⟨by show 5 ≤ sizeLine; decide, fun a ha => ?_⟩
            rw [range_snoc, List.map_append]
            exact elem_tup s3 hD6 hus hts3 ha (by rw [List.length_map, List.length_map, List.length_range]; omega)
          · rintro H3 ⟨s3, us, hus, hts3⟩
            have R3 := R2.same s3
            have hw3 := s3 _ _ hws
            have tw3 := hts2.keep fun _ _ h => s3 _ _ h
            walk_at "rd"
            refine ⟨by decide, fun b4 b4n => ?_⟩; have s4 : Same H3 (upd H3 b4 (.lst [])) := same_new (Same.refl _) b4n; have h4 : upd H3 b4 (.lst []) b4 = some (.lst []) := upd_same; generalize upd H3 b4 (.lst []) = H4 at s4 h4
            walk_at "rd"
            refine r_fault (rowsIn_of (.inl (s4 _ _ hw3)) (tw3.keep fun _ _ h => s4 _ _ h)) (rowsIn_of (.inl h4) .nil) f_many1 fun t5 H5 s5 h5 => ?_
            walk_at "rd"
            refine ⟨by decide, fun b6 b6n => ?_⟩; have s6 : Same H5 (upd H5 b6 (.tup [V.str (Str.ofString "simple"), V.non, V.str (Str.ofString "many")])) := same_new (Same.refl _) b6n; have h6 : upd H5 b6 (.tup [V.str (Str.ofString "simple"), V.non, V.str (Str.ofString "many")]) b6 = some (.tup [V.str (Str.ofString "simple"), V.non, V.str (Str.ofString "many")]) := upd_same; generalize upd H5 b6 (.tup [V.str (Str.ofString "simple"), V.non, V.str (Str.ofString "many")]) = H6 at s6 h6
            refine R.nil ?_
            refine r_same3 (s6 _ _ h5) h6 (.str _) .non (.str _) fun H7 s7 => ?_
            have s37 := ((s4.trans s5).trans s6).trans s7
            have R7 := R3.same s37
            have hw7 := s37 _ _ hw3
            have tw7 := tw3.keep fun _ _ h => s37 _ _ h
            have hu7 := s37 _ _ hus
            have tu7 := hts3.keep fun _ _ h => s37 _ _ h
            have lw : ws.length = 25 := by rw [tw7.len, List.length_map, List.length_map, List.length_range]
            have lu : us.length = 6 := by rw [tu7.len, List.length_map, List.length_map, List.length_range]
            walk_at "rd"
            refine sl_ ?_
            refine R.var rfl ?_
            refine np_ ?_
            refine pt_ ?_
            refine R.c ?_
            refine ⟨_, rfl, ?_⟩
            refine slLN hw7 fun c8 H8 s8 _ h8 => ?_
            rw [cut_to ws (by decide) (by omega)] at h8
            walk_at "rd"
            refine R.tupL (s8 _ _ hu7) fun c9 hc9 => ?_
            have s9 : Same H8 (upd H8 c9 (.tup us)) := same_new (Same.refl _) hc9
            have h9 : upd H8 c9 (.tup us) c9 = some (.tup us) := upd_same
            generalize upd H8 c9 (.tup us) = H9 at s9 h9
            have s79 := s8.trans s9
            refine R.nil ?_
            have t8 : TupsAt H9 (ws.take 24) ((((List.range 25).map manyR).take 24).map srV) := by
              rw [List.map_take]
              exact (tw7.take 24).keep fun _ _ h => s79 _ _ h
            refine r_fine (rowsIn_of (.inl (s9 _ _ h8)) t8) (rowsIn_of (.inr h9) (tu7.keep fun _ _ h => s79 _ _ h)) both_good fun H10 s10 => ?_
            walk_at "rd"
            refine itn (fun h => absurd rfl h) (fun _ => ?_)
            have s710 := s79.trans s10
            have R10 := R7.same s710
            walk_at "rd"
            refine ⟨by decide, fun a1 a1n => ?_⟩; have s11 : Same H10 (upd H10 a1 (.tup [V.str (Str.ofString "a"), V.int 2, V.int 1, V.bl true, V.int 0])) := same_new (Same.refl _) a1n; have h11 : upd H10 a1 (.tup [V.str (Str.ofString "a"), V.int 2, V.int 1, V.bl true, V.int 0]) a1 = some (.tup [V.str (Str.ofString "a"), V.int 2, V.int 1, V.bl true, V.int 0]) := upd_same; generalize upd H10 a1 (.tup [V.str (Str.ofString "a"), V.int 2, V.int 1, V.bl true, V.int 0]) = H11 at s11 h11
            walk_at "rd"
            refine ⟨by decide, fun a2 a2n => ?_⟩; have s12 : Same H11 (upd H11 a2 (.lst [V.ref a1])) := same_new (Same.refl _) a2n; have h12 : upd H11 a2 (.lst [V.ref a1]) a2 = some (.lst [V.ref a1]) := upd_same; generalize upd H11 a2 (.lst [V.ref a1]) = H12 at s12 h12
            have s712 := (s710.trans s11).trans s12
            refine catLN (s712 _ _ hu7) h12 (by show _ + 1 ≤ 1000; omega) fun d H13 s13 _ h13 => ?_
            have R13 := ((R10.same s11).same s12).same s13
            have t13 := (tu7.keep fun _ _ h => s13 _ _ (s712 _ _ h)).snoc ((s12.trans s13) _ _ h11)
            walk_at "rd"
            refine r_fault (rowsIn_of (.inl R13.hs) R13.ts) (rowsIn_of (.inl h13) t13) (by have := f_many2 (rs := rs) hg.s gsl; rw [List.map_append] at this; exact this) fun t14 H14 s14 h14 => ?_
            walk_at "rd"
            refine ⟨by decide, fun b15 b15n => ?_⟩; have s15 : Same H14 (upd H14 b15 (.tup [V.str (Str.ofString "multipliers"), V.non, V.str (Str.ofString "many")])) := same_new (Same.refl _) b15n; have h15 : upd H14 b15 (.tup [V.str (Str.ofString "multipliers"), V.non, V.str (Str.ofString "many")]) b15 = some (.tup [V.str (Str.ofString "multipliers"), V.non, V.str (Str.ofString "many")]) := upd_same; generalize upd H14 b15 (.tup [V.str (Str.ofString "multipliers"), V.non, V.str (Str.ofString "many")]) = H15 at s15 h15
            refine R.nil ?_
            refine r_same3 (s15 _ _ h14) h15 (.str _) .non (.str _) fun H16 s16 => ?_
            exact k _ (((R13.same s14).same s15).same s16).e
      · walk_at "rd"
        exact ⟨rfl, R1⟩
    rintro _ H1 ⟨rfl, R1⟩
    refine R.cut (fun (σ' : L2.St) (H' : Hp) => σ' = [some (.ref p), some (.ref s), some (.ref m), some (.int kd), none, none, none, none, none, none, none] ∧ RS H H' p l s m xs ys rs ms) ?_ ?_
    · -- a multiplier whose word stands
      have hs1 := R1.hs
      have hm1 := R1.hm
      walk_at "rd"
      refine it (fun hk => ?_) (fun hk => ?_)
      · walk_at "rd"
        refine truL hs1 ?_
        by_cases hx : xs.isEmpty = true
        · rw [hx]
          walk_at "rd"
          exact ⟨rfl, R1⟩
        · obtain ⟨hx', hx0⟩ := isE hx
          rw [hx']
          walk_at "rd"
          refine it (fun hl => ?_) (fun hl => ?_)
          · walk_at "rd"
            refine r_take' R1.P (by omega) (by omega) (fun H2 d e2 P2 d0 d1 => ?_)
            have R2 := R1.take sp mp e2 P2
            have hd : d.toNat < rs.length := by omega
            have hri : rs[d.toNat]? = some rs[d.toNat] := List.getElem?_eq_getElem hd
            obtain ⟨b, hb, hbt⟩ := R2.ts.get d.toNat (srV rs[d.toNat]) (by rw [List.getElem?_map, hri]; rfl)
            have hrm : rs[d.toNat] ∈ rs := List.getElem_mem hd
            generalize rs[d.toNat] = r at hri hbt hrm
            refine R.ixL R2.hs (atI_mid d0 hb) ?_
            have hm2 := R2.hm
            have e0 : atI (srV r) 0 = some (.str r.w) := atI_nat (j := 0) rfl
            walk_at "rd"
            refine r_take' R2.P (by omega) (by omega) (fun H3 j e3 P3 j0 j1 => ?_)
            have R3 := R2.take sp mp e3 P3
            obtain ⟨jn, rfl⟩ : ∃ n : Nat, j = (n : Int) := ⟨j.toNat, by omega⟩
            have hjl : jn ≤ ys.length := by omega
            walk_at "rd"
            refine sl_ ?_
            refine R.var rfl ?_
            refine np_ ?_
            refine pt_ ?_
            refine R.var rfl ?_
            refine ⟨_, rfl, ?_⟩
            refine slLN R3.hm fun a4 H4 s4 _ h4 => ?_
            rw [cut_to ys (by omega) (by omega), Int.toNat_natCast] at h4
            walk_at "rd"
            refine ⟨by decide, fun a5 a5n => ?_⟩; have s5 : Same H4 (upd H4 a5 (.tup [V.str r.w, V.int 7, V.int 1, V.bl false, V.int 0])) := same_new (Same.refl _) a5n; have h5 : upd H4 a5 (.tup [V.str r.w, V.int 7, V.int 1, V.bl false, V.int 0]) a5 = some (.tup [V.str r.w, V.int 7, V.int 1, V.bl false, V.int 0]) := upd_same; generalize upd H4 a5 (.tup [V.str r.w, V.int 7, V.int 1, V.bl false, V.int 0]) = H5 at s5 h5
            walk_at "rd"
            refine ⟨by decide, fun a6 a6n => ?_⟩; have s6 : Same H5 (upd H5 a6 (.lst [V.ref a5])) := same_new (Same.refl _) a6n; have h6 : upd H5 a6 (.lst [V.ref a5]) a6 = some (.lst [V.ref a5]) := upd_same; generalize upd H5 a6 (.lst [V.ref a5]) = H6 at s6 h6
            refine catLN ((s5.trans s6) _ _ h4) h6 (by rw [List.length_take]; show _ + 1 ≤ 1000; omega) fun a7 H7 s7 _ h7 => ?_
            refine sl_ ?_
            refine R.var rfl ?_
            refine pt_ ?_
            refine R.var rfl ?_
            refine ⟨_, rfl, ?_⟩
            refine np_ ?_
            have R7 := (((R3.same s4).same s5).same s6).same s7
            refine slLN R7.hm fun a8 H8 s8 _ h8 => ?_
            rw [cut_from ys (by omega) (by omega), Int.toNat_natCast] at h8
            refine catLN (s8 _ _ h7) h8 (by rw [List.length_append, List.length_take, List.length_drop]; show _ + 1 + _ ≤ 1000; omega) fun a9 H9 s9 _ h9 => ?_
            have R9 := (R7.same s8).same s9
            walk_at "rd"
            have t9 : TupsAt H9 (ys.take jn ++ [.ref a5] ++ ys.drop jn) ((ms.take jn ++ [(⟨r.w, 7, some 1, false, 0⟩ : MR)] ++ ms.drop jn).map mrV) := by
              rw [List.map_append, List.map_append, List.map_take, List.map_drop]
              exact ((R9.tm.take jn).cat (.cons (((s6.trans s7).trans (s8.trans s9)) _ _ h5) .nil)).cat (R9.tm.drop jn)
            have gr := hg.s r hrm
            refine r_fault (rowsIn_of (.inl R9.hs) R9.ts) (rowsIn_of (.inl h9) t9) (f_twice hg (by omega) (by omega) (good71 gr.w) (List.mem_append_left _ (List.mem_map.mpr ⟨r, hrm, rfl⟩))) fun t14 H14 s14 h14 => ?_
            walk_at "rd"
            refine ⟨by decide, fun b15 b15n => ?_⟩; have s15 : Same H14 (upd H14 b15 (.tup [V.str (Str.ofString "multipliers"), V.int (jn : Int), V.str (Str.ofString "twice")])) := same_new (Same.refl _) b15n; have h15 : upd H14 b15 (.tup [V.str (Str.ofString "multipliers"), V.int (jn : Int), V.str (Str.ofString "twice")]) b15 = some (.tup [V.str (Str.ofString "multipliers"), V.int (jn : Int), V.str (Str.ofString "twice")]) := upd_same; generalize upd H14 b15 (.tup [V.str (Str.ofString "multipliers"), V.int (jn : Int), V.str (Str.ofString "twice")]) = H15 at s15 h15
            refine R.nil ?_
            refine r_same3 (s15 _ _ h14) h15 (.str _) (.int _) (.str _) fun H16 s16 => ?_
            exact k _ (((R9.same s14).same s15).same s16).e
          · walk_at "rd"
            exact ⟨rfl, R1⟩
      · walk_at "rd"
        exact ⟨rfl, R1⟩
    rintro _ H1 ⟨rfl, R1⟩
    refine R.cut (fun (σ' : L2.St) (H' : Hp) => σ' = [some (.ref p), some (.ref s), some (.ref m), some (.int kd), none, none, none, none, none, none, none] ∧ RS H H' p l s m xs ys rs ms) ?_ ?_
    · -- a simple word that stands
      have hs1 := R1.hs
      walk_at "rd"
      refine it (fun hk => ?_) (fun hk => ?_)
      · walk_at "rd"
        refine truL hs1 ?_
        cases rs with
        | nil =>
          have hx : xs.isEmpty = true := by
            cases xs with
            | nil => rfl
            | cons a t => exact absurd lx (by simp)
          rw [hx]
          walk_at "rd"
          exact ⟨rfl, R1⟩
        | cons r0 rs =>
          have hx : xs.isEmpty = false := by
            cases xs with
            | nil => exact absurd lx (by simp)
            | cons a t => rfl
          rw [hx]
          walk_at "rd"
          obtain ⟨b, hb, hbt⟩ := R1.ts.get 0 (srV r0) rfl
          refine R.ixL R1.hs (atI_mid (by decide) hb) ?_
          have e0 : atI (srV r0) 0 = some (.str r0.w) := atI_nat (j := 0) rfl
          walk_at "rd"
          refine ⟨by decide, fun a2 a2n => ?_⟩; have s2 : Same H1 (upd H1 a2 (.tup [V.str r0.w, V.int 7])) := same_new (Same.refl _) a2n; have h2 : upd H1 a2 (.tup [V.str r0.w, V.int 7]) a2 = some (.tup [V.str r0.w, V.int 7]) := upd_same; generalize upd H1 a2 (.tup [V.str r0.w, V.int 7]) = H2 at s2 h2
          walk_at "rd"
          refine ⟨by decide, fun a3 a3n => ?_⟩; have s3 : Same H2 (upd H2 a3 (.lst [V.ref a2])) := same_new (Same.refl _) a3n; have h3 : upd H2 a3 (.lst [V.ref a2]) a3 = some (.lst [V.ref a2]) := upd_same; generalize upd H2 a3 (.lst [V.ref a2]) = H3 at s3 h3
          refine R.gname ?_
          dsimp only [List.set_cons_succ, List.set_cons_zero, List.map_nil]
          walk_at "rd"
          refine sl_ ?_
          refine R.var rfl ?_
          refine np_ ?_
          refine pt_ ?_
          refine R.c ?_
          refine ⟨_, rfl, ?_⟩
          have R3 := (R1.same s2).same s3
          refine slLN R3.hs fun a4 H4 s4 _ h4 => ?_
          have eC : ∀ (zs : List V), cutV zs none (some 23) = zs.take 23 := fun zs => by
            unfold cutV
            have e0 : HT.sIx zs.length 0 none = 0 := rfl
            have e1 : HT.sIx zs.length zs.length (some 23) = min 23 zs.length := by
              show (if (23 : Int) < 0 then ((23 : Int) + (zs.length : Int)).toNat else min (23 : Int).toNat zs.length) = _
              rfl
            rw [e0, e1, List.drop_zero, Nat.sub_zero, ← List.take_take, List.take_length]
          rw [eC] at h4
          walk_at "rd"
          refine catLN h4 ((s4 _ _ h3)) (by rw [List.length_take]; show _ + 1 ≤ 1000; omega) fun a5 H5 s5 _ h5 => ?_
          walk_at "rd"
          refine ⟨by decide, fun a6 a6n => ?_⟩; have s6 : Same H5 (upd H5 a6 (.lst [])) := same_new (Same.refl _) a6n; have h6 : upd H5 a6 (.lst []) a6 = some (.lst []) := upd_same; generalize upd H5 a6 (.lst []) = H6 at s6 h6
          walk_at "rd"
          have R6 := ((R3.same s4).same s5).same s6
          have t6 : TupsAt H6 (xs.take 23 ++ [.ref a2]) (((r0 :: rs).take 23 ++ [(⟨r0.w, 7⟩ : SR)]).map srV) := by
            rw [List.map_append, List.map_take]
            exact (R6.ts.take 23).cat (.cons ((((s3.trans s4).trans s5).trans s6) _ _ h2) .nil)
          refine r_fault (rowsIn_of (.inl (s6 _ _ h5)) t6) (rowsIn_of (.inl h6) .nil) (f_twice_s hg.s (List.nodup_append.mp hg.nd).1 ⟨r0.w, 7⟩ (good7s (hg.s r0 List.mem_cons_self).w) rfl) fun t14 H14 s14 h14 => ?_
          have R14 := R6.same s14
          walk_at "rd"
          refine sl_ ?_
          refine R.var rfl ?_
          refine np_ ?_
          refine pt_ ?_
          refine R.c ?_
          refine ⟨_, rfl, ?_⟩
          refine slLN R14.hs fun a15 H15 s15 _ h15 => ?_
          rw [eC] at h15
          have ln : ((xs.take 23).length : Int) = (((r0 :: rs).take 23).length : Nat) := by rw [List.length_take, List.length_take, lx]
          walk_at "rd"
          rw [ln]
          refine ⟨by decide, fun b16 b16n => ?_⟩; have s16 : Same H15 (upd H15 b16 (.tup [V.str (Str.ofString "simple"), V.int (((r0 :: rs).take 23).length : Nat), V.str (Str.ofString "twice")])) := same_new (Same.refl _) b16n; have h16 : upd H15 b16 (.tup [V.str (Str.ofString "simple"), V.int (((r0 :: rs).take 23).length : Nat), V.str (Str.ofString "twice")]) b16 = some (.tup [V.str (Str.ofString "simple"), V.int (((r0 :: rs).take 23).length : Nat), V.str (Str.ofString "twice")]) := upd_same; generalize upd H15 b16 (.tup [V.str (Str.ofString "simple"), V.int (((r0 :: rs).take 23).length : Nat), V.str (Str.ofString "twice")]) = H16 at s16 h16
          refine R.nil ?_
          refine r_same3 ((s15.trans s16) _ _ h14) h16 (.str _) (.int _) (.str _) fun H17 s17 => ?_
          exact k _ (((R14.same s15).same s16).same s17).e
      · walk_at "rd"
        exact ⟨rfl, R1⟩
    rintro _ H1 ⟨rfl, R1⟩
    refine R.cut (fun (σ' : L2.St) (H' : Hp) => σ' = [some (.ref p), some (.ref s), some (.ref m), some (.int kd), none, none, none, none, none, none, none] ∧ RS H H' p l s m xs ys rs ms) ?_ ?_
    · -- a multiplier's own word
      have hm1 := R1.hm
      walk_at "rd"
      refine it (fun hl0 => ?_) (fun hl0 => ?_)
      · walk_at "rd"
        refine it (fun hl => ?_) (fun hl => ?_)
        · walk_at "rd"
          refine r_take' R1.P (by omega) (by omega) (fun H2 d2 e2 P2 _ _ => ?_)
          have R2 := R1.take sp mp e2 P2
          have hm2 := R2.hm
          walk_at "rd"
          refine it (fun hk => ?_) (fun hk => ?_)
          · walk_at "rd"
            refine r_take' R2.P (by omega) (by omega) (fun H3 d e3 P3 d0 d1 => ?_)
            have R3 := R2.take sp mp e3 P3
            have hd : d.toNat < ms.length := by omega
            have hri : ms[d.toNat]? = some ms[d.toNat] := List.getElem?_eq_getElem hd
            obtain ⟨b, hb, hbt⟩ := R3.tm.get d.toNat (mrV ms[d.toNat]) (by rw [List.getElem?_map, hri]; rfl)
            have hrm : ms[d.toNat] ∈ ms := List.getElem_mem hd
            generalize ms[d.toNat] = r at hri hbt hrm
            refine R.ixL R3.hm (atI_mid d0 hb) ?_
            have e0 : atI (mrV r) 0 = some (.str r.w) := atI_nat (j := 0) rfl
            walk_at "rd"
            refine ⟨by decide, fun a4 a4n => ?_⟩; have s4 : Same H3 (upd H3 a4 (.tup [V.str r.w, V.int 7, V.non, V.bl false, V.int 0])) := same_new (Same.refl _) a4n; have h4 : upd H3 a4 (.tup [V.str r.w, V.int 7, V.non, V.bl false, V.int 0]) a4 = some (.tup [V.str r.w, V.int 7, V.non, V.bl false, V.int 0]) := upd_same; generalize upd H3 a4 (.tup [V.str r.w, V.int 7, V.non, V.bl false, V.int 0]) = H4 at s4 h4
            walk_at "rd"
            refine ⟨by decide, fun a5 a5n => ?_⟩; have s5 : Same H4 (upd H4 a5 (.lst [V.ref a4])) := same_new (Same.refl _) a5n; have h5 : upd H4 a5 (.lst [V.ref a4]) a5 = some (.lst [V.ref a4]) := upd_same; generalize upd H4 a5 (.lst [V.ref a4]) = H5 at s5 h5
            have R5 := (R3.same s4).same s5
            refine catLN R5.hm h5 (by show _ + 1 ≤ 1000; omega) fun a6 H6 s6 _ h6 => ?_
            have R6 := R5.same s6
            have hm6 := R6.hm
            walk_at "rd"
            have t6 : TupsAt H6 (ys ++ [.ref a4]) ((ms.take ms.length ++ [(⟨r.w, 7, none, false, 0⟩ : MR)] ++ ms.drop ms.length).map mrV) := by
              rw [List.take_length, List.drop_length, List.append_nil, List.map_append]
              exact R6.tm.cat (.cons ((s5.trans s6) _ _ h4) .nil)
            have gr := hg.m r hrm
            refine r_fault (rowsIn_of (.inl R6.hs) R6.ts) (rowsIn_of (.inl h6) t6) (f_twice hg (by omega) (Nat.le_refl _) (good7n gr.w) (List.mem_append_right _ (List.mem_map.mpr ⟨r, by rw [List.take_length]; exact hrm, rfl⟩))) fun t14 H14 s14 h14 => ?_
            have hm14 := s14 _ _ hm6
            walk_at "rd"
            rw [ly]
            refine ⟨by decide, fun b15 b15n => ?_⟩; have s15 : Same H14 (upd H14 b15 (.tup [V.str (Str.ofString "multipliers"), V.int (ms.length : Nat), V.str (Str.ofString "twice")])) := same_new (Same.refl _) b15n; have h15 : upd H14 b15 (.tup [V.str (Str.ofString "multipliers"), V.int (ms.length : Nat), V.str (Str.ofString "twice")]) b15 = some (.tup [V.str (Str.ofString "multipliers"), V.int (ms.length : Nat), V.str (Str.ofString "twice")]) := upd_same; generalize upd H14 b15 (.tup [V.str (Str.ofString "multipliers"), V.int (ms.length : Nat), V.str (Str.ofString "twice")]) = H15 at s15 h15
            refine R.nil ?_
            refine r_same3 (s15 _ _ h14) h15 (.str _) (.int _) (.str _) fun H16 s16 => ?_
            exact k _ (((R6.same s14).same s15).same s16).e
          · walk_at "rd"
            exact ⟨rfl, R2⟩
        · walk_at "rd"
          exact ⟨rfl, R1⟩
      · walk_at "rd"
        exact ⟨rfl, R1⟩
    rintro _ H1 ⟨rfl, R1⟩
    walk_at "rd"
    refine ⟨by decide, fun a1 a1n => ?_⟩; have s2 : Same H1 (upd H1 a1 (.tup [V.str (Str.ofString "zza"), V.int 5, V.non, V.bl false, V.int 0])) := same_new (Same.refl _) a1n; have h2 : upd H1 a1 (.tup [V.str (Str.ofString "zza"), V.int 5, V.non, V.bl false, V.int 0]) a1 = some (.tup [V.str (Str.ofString "zza"), V.int 5, V.non, V.bl false, V.int 0]) := upd_same; generalize upd H1 a1 (.tup [V.str (Str.ofString "zza"), V.int 5, V.non, V.bl false, V.int 0]) = H2 at s2 h2
    walk_at "rd"
    refine ⟨by decide, fun a2 a2n => ?_⟩; have s3 : Same H2 (upd H2 a2 (.tup [V.str (Str.ofString "zzb"), V.int 5, V.int 1, V.bl false, V.int 0])) := same_new (Same.refl _) a2n; have h3 : upd H2 a2 (.tup [V.str (Str.ofString "zzb"), V.int 5, V.int 1, V.bl false, V.int 0]) a2 = some (.tup [V.str (Str.ofString "zzb"), V.int 5, V.int 1, V.bl false, V.int 0]) := upd_same; generalize upd H2 a2 (.tup [V.str (Str.ofString "zzb"), V.int 5, V.int 1, V.bl false, V.int 0]) = H3 at s3 h3
    walk_at "rd"
    refine ⟨by decide, fun a3 a3n => ?_⟩; have s4 : Same H3 (upd H3 a3 (.tup [V.str (Str.ofString "zzc"), V.int 6, V.non, V.bl true, V.int 5])) := same_new (Same.refl _) a3n; have h4 : upd H3 a3 (.tup [V.str (Str.ofString "zzc"), V.int 6, V.non, V.bl true, V.int 5]) a3 = some (.tup [V.str (Str.ofString "zzc"), V.int 6, V.non, V.bl true, V.int 5]) := upd_same; generalize upd H3 a3 (.tup [V.str (Str.ofString "zzc"), V.int 6, V.non, V.bl true, V.int 5]) = H4 at s4 h4
    walk_at "rd"
    refine ⟨by decide, fun a4 a4n => ?_⟩; have s5 : Same H4 (upd H4 a4 (.lst [V.ref a1, V.ref a2, V.ref a3])) := same_new (Same.refl _) a4n; have h5 : upd H4 a4 (.lst [V.ref a1, V.ref a2, V.ref a3]) a4 = some (.lst [V.ref a1, V.ref a2, V.ref a3]) := upd_same; generalize upd H4 a4 (.lst [V.ref a1, V.ref a2, V.ref a3]) = H5 at s5 h5
    refine R.gname ?_
    dsimp only [List.set_cons_succ, List.set_cons_zero, List.map_nil]
    walk_at "rd"
    refine ⟨by decide, fun a5 a5n => ?_⟩; have s6 : Same H5 (upd H5 a5 (.lst [])) := same_new (Same.refl _) a5n; have h6 : upd H5 a5 (.lst []) a5 = some (.lst []) := upd_same; generalize upd H5 a5 (.lst []) = H6 at s6 h6
    walk_at "rd"
    have t6 : TupsAt H6 [.ref a1, .ref a2, .ref a3] (zR.map mrV) := .cons (((s3.trans s4).trans (s5.trans s6)) _ _ h2) (.cons ((s4.trans (s5.trans s6)) _ _ h3) (.cons ((s5.trans s6) _ _ h4) .nil))
    refine r_fault (rowsIn_of (.inl h6) .nil) (rowsIn_of (.inl (s6 _ _ h5)) t6) f_endless fun t14 H14 s14 h14 => ?_
    walk_at "rd"
    refine ⟨by decide, fun b15 b15n => ?_⟩; have s15 : Same H14 (upd H14 b15 (.tup [V.str (Str.ofString "multipliers"), V.int 2, V.str (Str.ofString "endless")])) := same_new (Same.refl _) b15n; have h15 : upd H14 b15 (.tup [V.str (Str.ofString "multipliers"), V.int 2, V.str (Str.ofString "endless")]) b15 = some (.tup [V.str (Str.ofString "multipliers"), V.int 2, V.str (Str.ofString "endless")]) := upd_same; generalize upd H14 b15 (.tup [V.str (Str.ofString "multipliers"), V.int 2, V.str (Str.ofString "endless")]) = H15 at s15 h15
    refine R.nil ?_
    refine r_same3 (s15 _ _ h14) h15 (.str _) (.int _) (.str _) fun H16 s16 => ?_
    exact k _ (((((((R1.same s2).same s3).same s4).same s5).same s6).same s14).same (s15.trans s16)).e
end
end KN
end
section
set_option Elab.async false
set_option linter.all false
set_option maxRecDepth 100000
set_option maxHeartbeats 4000000
set_option pp.maxSteps 1500
set_option pp.deepTerms false
local macro_rules | `(tactic| walk_at "ne") => `(tactic| first
  | assumption | (apply Ne.symm; assumption)
  | exact R.ne_new (by assumption) | exact (R.ne_new (by assumption)).symm
  | exact L2.ne_of_none (by assumption) (by assumption) | exact (L2.ne_of_none (by assumption) (by assumption)).symm
  | exact L2.ne_of_none (by assumption) (R.free_new (by assumption)) | exact (L2.ne_of_none (by assumption) (R.free_new (by assumption))).symm)
local macro_rules | `(tactic| walk_at "at") => `(tactic| first
  | assumption | exact L2.upd_same
  | (refine R.sb (H := ?H) (p := ?p) ?e ?n ?h; (case e => assumption); (case n => walk_at "ne"); (case h => walk_at "at"))
  | (refine R.sm (H := ?H) ?e ?h; (case e => assumption); (case h => walk_at "at"))
  | (refine Eq.trans (L2.upd_ne ?_) ?_ <;> first | walk_at "ne" | walk_at "at"))
local macro_rules | `(tactic| walk_at "sqt") => `(tactic| first | assumption | (refine L2.SqT.of ?_; walk_at "at"))
local macro_rules | `(tactic| walk_at "ty") => `(tactic| first | exact R.tyN | exact R.tyB | exact R.tyI | exact R.tyS | (refine R.tyT (xs := ?xs) ?h; case h => walk_at "at") | (refine R.tyL (xs := ?xs) ?h; case h => walk_at "at"))
local macro_rules | `(tactic| walk_at "kit") => `(tactic| first | exact R.kit_NoneType_tuple | exact R.kit_NoneType_list | exact R.kit_NoneType_bool | exact R.kit_NoneType_str | exact R.kit_NoneType_int | exact R.kit_bool_tuple | exact R.kit_bool_list | exact R.kit_bool_bool | exact R.kit_bool_str | exact R.kit_bool_int | exact R.kit_int_tuple | exact R.kit_int_list | exact R.kit_int_bool | exact R.kit_int_str | exact R.kit_int_int | exact R.kit_str_tuple | exact R.kit_str_list | exact R.kit_str_bool | exact R.kit_str_str | exact R.kit_str_int | exact R.kit_tuple_tuple | exact R.kit_tuple_list | exact R.kit_tuple_bool | exact R.kit_tuple_str | exact R.kit_tuple_int | exact R.kit_list_tuple | exact R.kit_list_list | exact R.kit_list_bool | exact R.kit_list_str | exact R.kit_list_int)
local macro_rules | `(tactic| walk_at "sz") => `(tactic| first | assumption | (refine Nat.le_trans ?_ (show 1000 ≤ PySem.sizeLine by decide); omega) | decide)
local macro_rules | `(tactic| walk_at "szl") => `(tactic| first | assumption | exact Nat.le_of_lt (L2.small1000 (by omega)) | decide | decide +kernel)
local macro_rules | `(tactic| walk_at "sqa") => `(tactic| first | assumption | exact R.SeqA.same (by assumption) (by assumption) | exact R.SeqA.new (by assumption) (by assumption) | (exact Or.inl (by walk_at "at")) | (exact Or.inr (by walk_at "at")))
local macro_rules | `(tactic| walk_at "ix") => `(tactic| first | rfl | (exact L2.atI_nat (by assumption)) | assumption)
local macro_rules | `(tactic| walk_at "cond") => `(tactic| first
  | exact Or.inl (by decide) | exact Or.inr (by decide) | exact Or.inl ⟨by omega, by omega⟩ | exact Or.inr ⟨by omega, by omega⟩
  | (constructor <;> omega) | (show _ ≠ _; omega) | decide | omega)
local macro_rules | `(tactic| walk_at "r1") => `(tactic| first
  | with_reducible refine R.seq ?_ | with_reducible refine R.asg ?_ | with_reducible refine R.ifs ?_ | with_reducible refine R.ret ?_ | with_reducible refine R.retN ?_ | with_reducible refine R.drop ?_ | with_reducible refine R.next ?_
  | with_reducible refine R.op ?_ | ((with_reducible refine R.var (v := ?v) ?h ?q); case h => rfl) | with_reducible refine R.c ?_ | with_reducible refine R.tst ?_ | with_reducible refine R.tb_ ?_ | with_reducible refine R.ex ?_
  | with_reducible refine R.i0 ?_ | with_reducible refine R.eqI ?_ | with_reducible refine R.neI ?_ | ((with_reducible refine R.ic ?_ ?_); · walk_at "cond") | with_reducible refine R.u0 ?_ | with_reducible refine R.un ?_
  | ((with_reducible refine R.eq ?_ ?_); · rfl) | ((with_reducible refine R.ne ?_ ?_); · rfl)
  | with_reducible refine R.and_ ?_ | with_reducible refine R.or_ ?_ | with_reducible refine R.not_ ?_ | with_reducible refine R.ife ?_ | with_reducible refine R.chain ?_
  | with_reducible refine R.cons ?_ | with_reducible refine R.nil ?_ | with_reducible refine R.call ?_ | with_reducible refine R.cb ?_ | with_reducible refine R.bm ?_
  | with_reducible refine R.gname ?_ | with_reducible refine R.gsub ?_ | with_reducible refine R.gnil ?_ | with_reducible refine R.gcons ?_ | with_reducible refine R.yes ?_
  | with_reducible refine R.int1 ?_ | ((with_reducible refine R.lenL (xs := ?xs) ?h ?q); case h => walk_at "at")
  | ((with_reducible refine R.ixL (xs := ?xs) (v := ?v) ?h ?e ?q); (case h => walk_at "at"); (case e => walk_at "ix"))
  | ((with_reducible refine R.setL (xs := ?xs) (n := ?n) ?h ?e ?q); (case h => walk_at "at"); (case e => rfl))
  | ((with_reducible refine R.append (xs := ?xs) ?h ?e ?q); (case h => walk_at "at"); (case e => walk_at "cond"))
  | with_reducible refine R.is_ ?_ | with_reducible refine R.isnot ?_ | with_reducible refine R.andV ?_ | with_reducible refine R.orV ?_ | with_reducible refine R.notV ?_
  | ((with_reducible refine R.isi (s := ?s) (b := ?b) ?ty ?h ?q); (case ty => walk_at "ty"); (case h => walk_at "kit"))
  | ((with_reducible refine R.addS ?h ?q); (case h => walk_at "sz")) | with_reducible refine R.max2 ?_ | with_reducible refine R.min2 ?_
  | ((with_reducible refine R.lenStr ?h ?q); (case h => walk_at "szl")) | ((with_reducible refine R.ixS (n := ?n) ?h ?e ?q); (case h => walk_at "szl"); (case e => walk_at "ix"))
  | ((with_reducible refine R.tyl (xs := ?xs) ?h ?q); (case h => walk_at "at")) | with_reducible refine R.itlist ?_ | with_reducible refine R.ittup ?_ | with_reducible refine R.m1 ?_ | with_reducible refine R.m1s ?_ | with_reducible refine R.leS ?_ | with_reducible refine R.itstr ?_ | with_reducible refine R.itstrE ?_ | with_reducible refine R.lc ?_ | with_reducible refine R.for_ ?_ | ((with_reducible refine R.all_ (bs := ?bs) ?h ?q); (case h => walk_at "at"))
  | with_reducible refine R.rng1 ?_ | ((with_reducible refine R.rngE ?h ?q); (case h => (constructor <;> omega)))
  | ((with_reducible refine R.lenT (xs := ?xs) ?h ?q); (case h => walk_at "sqt")) | ((with_reducible refine R.ixT (xs := ?xs) (v := ?v) ?h ?e ?q); (case h => walk_at "sqt"); (case e => walk_at "ix"))
  | ((refine R.itlE (xs := ?xs) ?h ?q); (case h => walk_at "at")) | ((refine R.ittE (xs := ?xs) ?h ?q); (case h => walk_at "at"))
  | ((refine R.gseq (xs := ?xs) ?h ?e ?q); (case h => walk_at "sqa"); (case e => rfl)) | ((refine R.ixA (xs := ?xs) (v := ?v) ?h ?e ?q); (case h => walk_at "sqa"); (case e => walk_at "ix")) | ((refine R.lenA (xs := ?xs) ?h ?q); (case h => walk_at "sqa"))
  | ((with_reducible refine R.gtup (xs := ?xs) ?h ?e ?q); (case h => walk_at "sqt"); (case e => rfl))
  | with_reducible refine R.din_ ?_ | with_reducible refine R.dput_ ?_
  | with_reducible refine R.sfld ?_ | with_reducible refine R.fld_ ?_ | with_reducible refine R.dc ?_
  | with_reducible refine R.dget1_ ?_
  | with_reducible refine R.itseq ?_ | with_reducible refine R.itenum ?_
  | with_reducible refine R.itT ?_ | with_reducible refine R.itF ?_ | with_reducible refine R.itNT ?_ | with_reducible refine R.itNF ?_
  | (with_reducible refine R.tup ?_) | (with_reducible refine R.lst ?_))
local macro_rules | `(tactic| walk_at "rd") => `(tactic| (repeat (first | walk_at "r1" | (dsimp only [Int.reduceToNat, List.set_cons_succ, List.set_cons_zero, List.length_cons, List.length_nil, List.nil_append, List.cons_append, List.append_nil]))))
local macro_rules | `(tactic| walk_at "go") => `(tactic| (rw [R.start_eq]; dsimp only [R.startE, List.map_nil]; walk_at "rd"))
namespace KN
open PySem L2 SX R
open C8 (Cal Def cal0 pe_c pe_gc fnScope fnBody pss_cut Met pe_mt pe_mt0)
theorem relabel_look (env : Env) (n : Str) (sc : Scope) (h : sc.names.lookup n = some .cell ∨ sc.names.lookup n = some .free) : (relabel sc env).names.lookup n = some .cell ∨ (relabel sc env).names.lookup n = some .free := by
  obtain ⟨kd, ns, g, c, mo⟩ := sc
  show (List.map _ ns).lookup n = some NameKind.cell ∨ (List.map _ ns).lookup n = some NameKind.free
  change ns.lookup n = some NameKind.cell ∨ ns.lookup n = some NameKind.free at h
  induction ns with
  | nil => rcases h with h | h <;> cases h
  | cons a t ih =>
    obtain ⟨m, k⟩ := a
    rw [List.map_cons]
    by_cases e : (n == m) = true
    · have hl : ((m, k) :: t).lookup n = some k := by rw [List.lookup_cons, e]
      rw [hl] at h
      dsimp only
      split
      · left; rw [List.lookup_cons, e]
      · rw [List.lookup_cons, e]; exact h
    · have e' : (n == m) = false := by simpa using e
      have hl : ((m, k) :: t).lookup n = t.lookup n := by rw [List.lookup_cons, e']
      rw [hl] at h
      have := ih h
      dsimp only
      split
      · rw [List.lookup_cons, e']; exact this
      · rw [List.lookup_cons, e']; exact this
theorem blkOk_in {N : List Str} {sc scope : Scope} {own : List (Str × Nat)} {env : Env} (h : blkC N sc scope own = true) : BlkOk N (relabel sc env) scope own := by
  have b := blkOk_by h
  exact ⟨b.kind, b.uniq, b.ix, fun y hy e => relabel_look env y.1 sc (b.free y hy e), b.own⟩
theorem passF {X : Cx} : Passes (L2.CX X.prog X.w) X (fun _ _ _ => False) := fun _ _ _ _ _ _ _ ⟨_, _, _, _, _, _, _, _, _, _, _, _, h⟩ => h.elim
def rIntB : List V → Hp → VK → Prop := fun xs H Q => ∃ k, xs = [.bl k] ∧ Q (.int (if k then 1 else 0)) H
theorem cIntB {X : Cx} : CallR X (.type "int") rIntB := fun pins s σ H xs us Q I r h => call_int1 pins s σ H xs us Q I r (.inr h)
theorem kOrT (K : PySem.W.Frag) {X : Cx} {a b : Expr} {rest : List Expr} {pos : Pos} {ta tb : TE} (ha : PE X a ta) (hb : PE X (.BoolOp .Or (b :: rest) pos) tb) (h : X.K = K := by rfl) : PE X (.BoolOp .Or (a :: b :: rest) pos) (tOrT K ta tb) := h ▸ pe_orT ha hb
/-- what is asked of the law: at a list of at most 63 numbers it tells True -/
def spTop (K : PySem.W.Frag) : Sp := fun us H Q _ => ∃ (q : Addr) (js : List Int), us = [.ref q] ∧ SqL K H q (js.map V.int) ∧ js.length ≤ 63 ∧ ∀ G, Q (.bl true) G
section
variable {P : Program} {w : World} {K : PySem.W.Frag} {mg : Str → Option Value} {base : Heap}
abbrev sLaw : Stmt := top 28
theorem scLaw : FnScope ["script", "pool", "rows", "simple", "multipliers", "passed", "system", "row", "words", "endless", "best", "count", "due", "text", "part"] ["script"] (fnScope sLaw) := ⟨rfl, rfl, rfl, by decide +kernel, rfl, by decide +kernel, by decide +kernel⟩
theorem good_of {rs : List SR} {ms : List MR} (h : RowsOk 6 12 8 rs ms) : GoodSys rs ms := by
  refine ⟨fun r hr => ?_, fun m hm => ?_, h.nd, by have := h.sl; omega, by have := h.ml; omega, h.one⟩
  · have g := h.s r hr
    exact ⟨g.w, g.lo, by have := g.hi; omega⟩
  · have g := h.m m hm
    have h1 := g.lo
    have h2 := g.hi
    have h3 := g.r0
    have h4 := g.r1
    refine ⟨g.w, h1, by omega, fun c hc => ?_, h3, h4⟩
    obtain ⟨c1, c2⟩ := g.c c hc
    refine ⟨c1, by omega, ?_⟩
    have : c * m.v ≤ 8 * m.v := Int.mul_le_mul_of_nonneg_right (by omega) (by omega)
    omega
/-- the two lists of rows, in their pair -/
structure LS (H : Hp) (p l t s m : Addr) (xs ys : List V) (rs : List SR) (ms : List MR) : Prop where
  P : PoolAt H p l
  ht : H t = some (.tup [.ref s, .ref m])
  hs : H s = some (.lst xs)
  hm : H m = some (.lst ys)
  sp : s ≠ p
  mp : m ≠ p
  ts : TupsAt H xs (rs.map srV)
  tm : TupsAt H ys (ms.map mrV)
theorem LS.same {H H' : Hp} {p l t s m : Addr} {xs ys : List V} {rs : List SR} {ms : List MR} (h : LS H p l t s m xs ys rs ms) (q : Same H H') : LS H' p l t s m xs ys rs ms :=
  ⟨h.P.same q, q _ _ h.ht, q _ _ h.hs, q _ _ h.hm, h.sp, h.mp, h.ts.keep fun a d z => q _ _ z, h.tm.keep fun a d z => q _ _ z⟩
theorem LS.take {H H' : Hp} {p l t s m : Addr} {xs ys : List V} {rs : List SR} {ms : List MR} (h : LS H p l t s m xs ys rs ms) (q : SameBut p H H') (P : PoolAt H' p l) : LS H' p l t s m xs ys rs ms :=
  ⟨P, keep_pool h.P q _ _ h.ht, q _ _ h.sp h.hs, q _ _ h.mp h.hm, h.sp, h.mp, h.ts.keep (keep_pool h.P q), h.tm.keep (keep_pool h.P q)⟩
/-- a list of rows, each a list or a tuple, none of them one of these -/
def RowsL (av : List Addr) (H : Hp) (A : Addr) (ds : List (List V)) : Prop := ∃ zs : List V, H A = some (.lst zs) ∧ zs.length = ds.length ∧ ∀ (i : Nat) (d : List V), ds[i]? = some d → ∃ b, zs[i]? = some (.ref b) ∧ (∀ c ∈ av, b ≠ c) ∧ SeqA H b d
theorem RowsL.keep {av : List Addr} {H H' : Hp} {A : Addr} {ds : List (List V)} (h : RowsL av H A ds) (k : ∀ b o, (∀ c ∈ av, b ≠ c) → H b = some o → H' b = some o) (kA : H' A = H A) : RowsL av H' A ds := by
  obtain ⟨zs, h1, h2, h3⟩ := h
  refine ⟨zs, kA.trans h1, h2, fun i d e => ?_⟩
  obtain ⟨b, b1, b2, b3⟩ := h3 i d e
  exact ⟨b, b1, b2, b3.elim (fun z => .inl (k _ _ b2 z)) (fun z => .inr (k _ _ b2 z))⟩
theorem RowsL.same {av : List Addr} {H H' : Hp} {A : Addr} {ds : List (List V)} (h : RowsL av H A ds) (q : Same H H') : RowsL av H' A ds := by
  have : ∃ zs, H A = some (.lst zs) := ⟨_, h.choose_spec.1⟩
  obtain ⟨zs, hz⟩ := this
  exact h.keep (fun b o _ e => q _ _ e) (by rw [q _ _ hz, hz])
theorem RowsL.rows {av : List Addr} {H : Hp} {A : Addr} {ds : List (List V)} (h : RowsL av H A ds) : RowsIn H A ds := by
  obtain ⟨zs, h1, h2, h3⟩ := h
  refine ⟨zs, .inl h1, h2, fun i d e => ?_⟩
  obtain ⟨b, b1, _, b3⟩ := h3 i d e
  exact ⟨b, b1, b3⟩
/-- lists that begin with a text may have changed behind it -/
structure Muts (H H' : Hp) : Prop where
  k : ∀ b o, H b = some o → (∀ z d, o ≠ .lst (.str z :: d)) → H' b = some o
  l : ∀ b z d, H b = some (.lst (.str z :: d)) → ∃ d', d'.length = d.length ∧ H' b = some (.lst (.str z :: d'))
theorem Muts.refl (H : Hp) : Muts H H := ⟨fun _ _ h _ => h, fun _ _ d h => ⟨d, rfl, h⟩⟩
theorem Muts.set {H H' : Hp} (h : Muts H H') {b : Addr} {z : Str} {d e : List V} (hb : H' b = some (.lst (.str z :: d))) (he : e.length = d.length) : Muts H (upd H' b (.lst (.str z :: e))) := by
  refine ⟨fun c o h1 h2 => ?_, fun c y f h1 => ?_⟩
  · have := h.k c o h1 h2
    by_cases hc : c = b
    · subst hc
      rw [hb] at this
      cases this
      exact absurd rfl (h2 z d)
    · rw [upd_ne hc]; exact this
  · obtain ⟨d', l', h'⟩ := h.l c y f h1
    by_cases hc : c = b
    · subst hc
      rw [hb] at h'
      cases h'
      exact ⟨e, he.trans l', upd_same⟩
    · exact ⟨d', l', by rw [upd_ne hc]; exact h'⟩
theorem tups_ref {H : Hp} {xs : List V} {ds : List (List V)} (h : TupsAt H xs ds) : ∀ z d, (HO.lst xs) ≠ .lst (.str z :: d) := fun z d e => by
  cases h with
  | nil => cases e
  | cons _ _ => cases e
theorem Muts.keep {H H' : Hp} (h : Muts H H') : TupKeep H H' := fun a d e => h.k _ _ e fun _ _ z => nomatch z
theorem LS.muts {H H' : Hp} {p l t s m : Addr} {xs ys : List V} {rs : List SR} {ms : List MR} (h : LS H p l t s m xs ys rs ms) (q : Muts H H') : LS H' p l t s m xs ys rs ms := by
  refine ⟨⟨?_, h.P.ne⟩, q.keep _ _ h.ht, q.k _ _ h.hs (tups_ref h.ts), q.k _ _ h.hm (tups_ref h.tm), h.sp, h.mp, h.ts.keep q.keep, h.tm.keep q.keep⟩
  obtain ⟨cs, i, d, s', h1, h2, h3⟩ := h.P.ex
  refine ⟨cs, i, d, s', q.k _ _ h1 (fun _ _ z => nomatch z), q.k _ _ h2 (fun z f e => ?_), h3⟩
  cases cs with
  | nil => cases e
  | cons _ _ => cases e
theorem SysAt.muts {S : Addr} {H H' : Hp} {x : Addr} {rs : List SR} {ms : List MR} (s : Muts H H') (h : SysAt S H x rs ms) : SysAt S H' x rs ms := by
  obtain ⟨dx, a, m, v, r, xs, ys, h1, h2, h3, h4, h5, h6, h7⟩ := h
  exact ⟨dx, a, m, v, r, xs, ys, s.k _ _ h1 (fun _ _ z => nomatch z), s.keep _ _ h2, h3.keep s.keep, s.keep _ _ h4, h5.keep s.keep, s.k _ _ h6 (fun _ _ z => nomatch z), s.k _ _ h7 (fun _ _ z => nomatch z)⟩
theorem SysAt.put {S : Addr} {H : Hp} {x A : Addr} {rs : List SR} {ms : List MR} {zs us : List V} (h : SysAt S H x rs ms) (hA : H A = some (.lst zs)) : SysAt S (upd H A (.lst us)) x rs ms := by
  obtain ⟨dx, a, m, v, r, xs, ys, h1, h2, h3, h4, h5, h6, h7⟩ := h
  have n : ∀ b o, H b = some o → o ≠ .lst zs → upd H A (.lst us) b = some o := fun b o hb ho => by
    rw [upd_ne]; exact hb
    intro e; subst e; rw [hA] at hb; cases hb; exact ho rfl
  exact ⟨dx, a, m, v, r, xs, ys, n _ _ h1 (fun z => nomatch z), n _ _ h2 (fun z => nomatch z), h3.keep (keep_list hA), n _ _ h4 (fun z => nomatch z), h5.keep (keep_list hA), n _ _ h6 (fun z => nomatch z), n _ _ h7 (fun z => nomatch z)⟩
theorem LS.put {H : Hp} {p l t s m A : Addr} {xs ys zs us : List V} {rs : List SR} {ms : List MR} (h : LS H p l t s m xs ys rs ms) (hA : H A = some (.lst zs)) (n1 : A ≠ p) (n2 : A ≠ l) (n3 : A ≠ s) (n4 : A ≠ m) : LS (upd H A (.lst us)) p l t s m xs ys rs ms :=
  ⟨h.P.put n1 n2, keep_list hA _ _ h.ht, by rw [upd_ne n3.symm]; exact h.hs, by rw [upd_ne n4.symm]; exact h.hm, h.sp, h.mp, h.ts.keep (keep_list hA), h.tm.keep (keep_list hA)⟩
theorem eqd_tup {H : Hp} {n : Nat} {a b : Addr} {xs ys : List V} (ha : H a = some (.tup xs)) (hb : H b = some (.tup ys)) (hl : xs.length = ys.length) (h1 : xs.length ≤ 1000) (h : ∀ (k : Nat) (u v : V), xs[k]? = some u → ys[k]? = some v → Eqd H n u v) : Eqd H (n + 1) (.ref a) (.ref b) := .inr (.inl ⟨a, b, xs, ys, rfl, rfl, ha, hb, hl, h1, h⟩)
theorem eqd_scal {H : Hp} {n : Nat} {x : V} (h : Scal x) : Eqd H (n + 1) x x := .inl ⟨rfl, h⟩
theorem eqd_flat {H : Hp} {n : Nat} {a b : Addr} {xs : List V} (ha : H a = some (.tup xs)) (hb : H b = some (.tup xs)) (h1 : xs.length ≤ 1000) (hs : ∀ v ∈ xs, Scal v) : Eqd H (n + 2) (.ref a) (.ref b) :=
  eqd_tup ha hb rfl h1 fun k u v e f => by rw [e] at f; cases f; exact eqd_scal (hs u (List.mem_of_getElem? e))
theorem eqd_two {H : Hp} {n : Nat} {a b : Addr} {x y x' y' : V} (ha : H a = some (.tup [x, y])) (hb : H b = some (.tup [x', y'])) (h1 : Eqd H n x x') (h2 : Eqd H n y y') : Eqd H (n + 1) (.ref a) (.ref b) :=
  eqd_tup ha hb rfl (by show 2 ≤ 1000; decide) fun k u v e f => match k, e, f with
    | 0, e, f => by cases e; cases f; exact h1
    | 1, e, f => by cases e; cases f; exact h2
    | k + 2, e, _ => by cases e
theorem eqd_rows {H : Hp} {n : Nat} {a b : Addr} {xs ys : List V} {ds : List (List V)} (ha : H a = some (.tup xs)) (hb : H b = some (.tup ys)) (hx : TupsAt H xs ds) (hy : TupsAt H ys ds) (hs : ∀ d ∈ ds, d.length ≤ 1000 ∧ ∀ v ∈ d, Scal v) (hl : ds.length ≤ 1000) : Eqd H (n + 3) (.ref a) (.ref b) :=
  eqd_tup ha hb (hx.len.trans hy.len.symm) (by rw [hx.len]; exact hl) fun k u v e f => by
    have hk : k < ds.length := by have := (List.getElem?_eq_some_iff.mp e).1; rw [hx.len] at this; exact this
    have hd : ds[k]? = some ds[k] := List.getElem?_eq_getElem hk
    obtain ⟨b1, q1, q2⟩ := hx.get k _ hd
    obtain ⟨b2, q3, q4⟩ := hy.get k _ hd
    rw [q1] at e
    rw [q3] at f
    cases e
    cases f
    have h := hs ds[k] (List.getElem_mem hk)
    exact eqd_flat q2 q4 h.1 h.2
theorem scal_ocnt (c : Option Int) : Scal (ocnt c) := by
  cases c with
  | none => exact .non
  | some i => exact .int i
theorem scal_s (rs : List SR) : ∀ d ∈ rs.map srV, d.length ≤ 1000 ∧ ∀ v ∈ d, Scal v := by
  intro d h
  obtain ⟨r, _, rfl⟩ := List.mem_map.mp h
  refine ⟨by show 2 ≤ 1000; decide, fun v hv => ?_⟩
  simp only [srV, List.mem_cons, List.not_mem_nil, or_false] at hv
  rcases hv with rfl | rfl
  · exact .str _
  · exact .int _
theorem scal_m1 (r : MR) : (mrV r).length ≤ 1000 ∧ ∀ v ∈ mrV r, Scal v := by
  refine ⟨by show 5 ≤ 1000; decide, fun v hv => ?_⟩
  simp only [mrV, List.mem_cons, List.not_mem_nil, or_false] at hv
  rcases hv with rfl | rfl | rfl | rfl | rfl
  · exact .str _
  · exact .int _
  · exact scal_ocnt _
  · exact .bl _
  · exact .int _
theorem scal_m (ms : List MR) : ∀ d ∈ ms.map mrV, d.length ≤ 1000 ∧ ∀ v ∈ d, Scal v := by
  intro d h
  obtain ⟨r, _, rfl⟩ := List.mem_map.mp h
  exact scal_m1 r
theorem r_same4 {H : Hp} {Q : VK} {E : XK} {x y : V} (h : Eqd H 4 x y) (k : ∀ H', Same H H' → Q (.bl true) H') : spSame 4 [x, y] H Q E := ⟨x, y, rfl, h, k⟩
theorem r_meth {S x : Addr} {n : Str} {sp : Sp} {dvs : List V} {E : XK} {t : TA} {σ : L2.St} {H : Hp} {Q : VK} {rs : List SR} {ms : List MR} (hσ : σ[6]? = some (some (.ref x))) (hX : SysAt S H x rs ms) (hn : ∀ a b c d, (sysFs a b c d).lookup n = none) (q : t σ H fun vs H2 => sp (.ref x :: (vs ++ dvs)) H2 Q E) : tMeth S n sp dvs E (tVar 6) t σ H Q := by
  obtain ⟨dx, a, m, v, r, xs, ys, h1, _⟩ := hX
  exact ⟨_, hσ, x, dx, _, rfl, h1, hn _ _ _ _, q⟩
theorem svOf_in {rs : List SR} {r : SR} (hn : (rs.map (·.w)).Nodup) (h : r ∈ rs) : svOf rs r.w = .int r.v := by
  unfold svOf
  rw [valV_at (v := .int r.v) ?_ (List.mem_map.mpr ⟨r, h, rfl⟩)]
  · rfl
  · rw [List.map_map]
    have : (rs.map ((·.1) ∘ fun r : SR => ((Sum.inr r.w : Key), V.int r.v))) = (rs.map (·.w)).map fun z => (Sum.inr z : Key) := by rw [List.map_map]; rfl
    rw [this, List.nodup_iff_pairwise_ne, List.pairwise_map]
    exact List.Pairwise.imp (fun h e => h (Sum.inr.inj e)) (List.nodup_iff_pairwise_ne.mp hn)
theorem svOf_off {rs : List SR} {z : Str} (h : z ∉ rs.map (·.w)) : svOf rs z = .non := by
  unfold svOf
  rw [valV_off]
  · rfl
  · intro hm
    obtain ⟨y, hy, ey⟩ := List.mem_map.mp hm
    obtain ⟨r, hr, rfl⟩ := List.mem_map.mp hy
    exact h (List.mem_map.mpr ⟨r, hr, Sum.inr.inj ey⟩)
theorem bms_max : ∀ (rs : List SR) (g : Int), (∀ y ∈ g :: rs.map (·.v), y ≤ bms g rs) ∧ bms g rs ∈ g :: rs.map (·.v)
  | [], g => ⟨fun y h => by
      rw [List.mem_singleton.mp h]
      exact Int.le_refl _, List.mem_cons_self⟩
  | r :: rs, g => by
    obtain ⟨h1, h2⟩ := bms_max rs (mx g r.v)
    have e : bms g (r :: rs) = bms (mx g r.v) rs := rfl
    have m1 : mx g r.v = g ∨ mx g r.v = r.v := by unfold mx; split <;> simp
    have m2 : g ≤ mx g r.v ∧ r.v ≤ mx g r.v := by unfold mx; split <;> omega
    have top := h1 (mx g r.v) List.mem_cons_self
    rw [e]
    refine ⟨fun y hy => ?_, ?_⟩
    · rw [List.map_cons] at hy
      rcases List.mem_cons.mp hy with rfl | hy
      · omega
      · rcases List.mem_cons.mp hy with rfl | hy
        · omega
        · exact h1 y (List.mem_cons_of_mem _ hy)
    · rw [List.map_cons]
      rcases List.mem_cons.mp h2 with h | h
      · rw [h]
        rcases m1 with m | m
        · rw [m]; exact List.mem_cons_self
        · rw [m]; exact List.mem_cons_of_mem _ List.mem_cons_self
      · exact List.mem_cons_of_mem _ (List.mem_cons_of_mem _ h)
theorem two_none : ∀ {ms : List MR} {i j : Nat} {a b : MR}, i < j → ms[i]? = some a → a.c = none → ms[j]? = some b → b.c = none → 2 ≤ (ms.filter fun r => r.c.isNone).length
  | [], _, _, _, _, _, h, _, _, _ => by cases h
  | m :: ms, 0, j + 1, a, b, _, h, ha, h', hb => by
    cases h
    have : b ∈ ms.filter fun r => r.c.isNone := List.mem_filter.mpr ⟨List.mem_of_getElem? (by simpa using h'), by rw [hb]; rfl⟩
    have := List.length_pos_of_mem this
    rw [List.filter_cons, if_pos (by rw [ha]; rfl), List.length_cons]
    omega
  | m :: ms, i + 1, j + 1, a, b, hij, h, ha, h', hb => by
    have := two_none (ms := ms) (i := i) (j := j) (by omega) (by simpa using h) ha (by simpa using h') hb
    rw [List.filter_cons]
    split
    · rw [List.length_cons]; omega
    · exact this
def kOf (m : MR) : Int := m.c.getD 5
theorem due_eq (m : MR) (n : Int) : spoken m n = (decide (n > (if m.u then 1 else 0)) && (match m.c with | none => true | some c => decide (n ≤ c))) := by
  unfold spoken
  congr 1
  cases m.u <;> exact decide_eq_decide.mpr (by simp; omega)
theorem truI {K : PySem.W.Frag} {H : Hp} {i : Int} {QB : Bool → Prop} (h : i ≠ 0) (q : QB true) : ∃ k, TruV K (.int i) H k ∧ QB k := ⟨true, by show true = (i != 0); simp [h], q⟩
theorem truN {K : PySem.W.Frag} {H : Hp} {QB : Bool → Prop} (q : QB false) : ∃ k, TruV K .non H k ∧ QB k := ⟨false, rfl, q⟩
theorem no_z5 {z : Str} (h : GoodW z) : z ≠ "zzzzz" := fun e => by
  obtain ⟨cs, rfl, _, ⟨_, h5⟩, _⟩ := h
  have := congrArg Str.length e
  rw [S_len] at this
  exact h5 (this.trans (by decide +kernel))
structure PD (p l s m : Addr) (H : Hp) (D a0 a1 : Addr) (rs : List SR) (ms : List MR) : Prop where
  hD : H D = some (.lst [.ref a0, .ref a1])
  Dp : D ≠ p
  n0 : ∀ c ∈ [p, l, s, m, D], a0 ≠ c
  n1 : ∀ c ∈ [p, l, s, m, D, a0], a1 ≠ c
  r0 : RowsL [p, D, a0] H a0 (rs.map srV)
  r1 : RowsL [p, D, a1] H a1 (ms.map mrV)
theorem PD.same {p l s m : Addr} {H H' : Hp} {D a0 a1 : Addr} {rs : List SR} {ms : List MR} (h : PD p l s m H D a0 a1 rs ms) (q : Same H H') : PD p l s m H' D a0 a1 rs ms :=
  ⟨q _ _ h.hD, h.Dp, h.n0, h.n1, h.r0.same q, h.r1.same q⟩
theorem RowsL.take {p D A : Addr} {H H' : Hp} {ds : List (List V)} (h : RowsL [p, D, A] H A ds) (q : SameBut p H H') (n : A ≠ p) : RowsL [p, D, A] H' A ds := by
  obtain ⟨zs, hz⟩ : ∃ zs, H A = some (.lst zs) := ⟨_, h.choose_spec.1⟩
  exact h.keep (fun b o hb e => q _ _ (hb p (by simp)) e) (by rw [q _ _ n hz, hz])
theorem PD.take {p l s m : Addr} {H H' : Hp} {D a0 a1 : Addr} {rs : List SR} {ms : List MR} (h : PD p l s m H D a0 a1 rs ms) (q : SameBut p H H') : PD p l s m H' D a0 a1 rs ms :=
  ⟨q _ _ h.Dp h.hD, h.Dp, h.n0, h.n1, h.r0.take q (h.n0 p (by simp)), h.r1.take q (h.n1 p (by simp))⟩
def tRowsOf (K : PySem.W.Frag) : TE := tLc (iList K (tVar 14)) (gName 7) tYes (tOp (rIxT K) (tTup (tCons (tCB (rListS K) (tCons (tVar 7) tNil)) (tCons (tVar 7) tNil))) (tCall spTake [] C8.E0 (tCons (tVar 1) (tCons (tC (V.int 2)) tNil)))) [7]
theorem r_rowsOf {a p l t s m D src : Addr} {H : Hp} {zs : List V} {ds : List (List V)} {Q : VK} (hsrc : H src = some (.lst zs)) (np : src ≠ p) (ht : TupsAt H zs ds) (hl : ds.length ≤ 100) (hP : PoolAt H p l) (Dp : D ≠ p) {us : List V} (hD : H D = some (.lst us))
    (k : ∀ A H', SameBut p H H' → PoolAt H' p l → H A = none → RowsL [p, D, A] H' A ds → Q (.ref A) H') :
    tRowsOf K [some (.ref a), some (.ref p), some (.ref t), some (.ref s), some (.ref m), none, none, none, none, none, none, none, none, none, some (.ref src)] H Q := by
  unfold tRowsOf
  have lz : zs.length = ds.length := ht.len
  walk_at "rd"
  intro A hA
  obtain ⟨Ap, Al⟩ := hP.nep hA
  have AD : D ≠ A := ne_of_none hD hA
  refine lc_it (walk_list (K := K) (a := src) (xs := zs)) (fun k H'' => SameBut p H H'' ∧ PoolAt H'' p l ∧ ∃ acc, H'' A = some (.lst acc) ∧ acc.length = k ∧ ∀ i d, i < k → ds[i]? = some d → ∃ b, acc[i]? = some (.ref b) ∧ (∀ c ∈ [p, D, A], b ≠ c) ∧ SeqA H'' b d)
    ⟨SameBut.refl.new hA, hP.new hA, [], upd_same, rfl, fun i d h => absurd h (by omega)⟩ (fun k H'' _ hp => SqL.of (hp.1 _ _ np hsrc)) ?_ ?_
  · rintro k u H3 H3' hk ⟨e3, P3, acc, hacc, hal, hel⟩ ⟨rfl, hu⟩
    have hkd : k < ds.length := by omega
    have hdk : ds[k]? = some ds[k] := List.getElem?_eq_getElem hkd
    obtain ⟨b0, hb, hbt⟩ := ht.get k _ hdk
    generalize ds[k] = d at hdk hbt
    rw [hb] at hu
    cases hu
    have h3 := keep_pool hP e3 _ _ hbt
    refine R.gname ⟨rfl, ?_⟩
    walk_at "rd"
    refine R.listT (SqT.of h3) fun l1 hl1 => ?_
    have s4 : Same H3' (upd H3' l1 (.lst d)) := same_new (Same.refl _) hl1
    have h4 : upd H3' l1 (.lst d) l1 = some (.lst d) := upd_same
    obtain ⟨l1p, _⟩ := P3.nep hl1
    have l1A : l1 ≠ A := (ne_of_none hacc hl1).symm
    have l1D : l1 ≠ D := (ne_of_none (e3 _ _ Dp hD) hl1).symm
    generalize upd H3' l1 (.lst d) = H4 at s4 h4
    walk_at "rd"
    refine ⟨by decide, fun t1 t1n => ?_⟩; have s5 : Same H4 (upd H4 t1 (.tup [V.ref l1, V.ref b0])) := same_new (Same.refl _) t1n; have h5 : upd H4 t1 (.tup [V.ref l1, V.ref b0]) t1 = some (.tup [V.ref l1, V.ref b0]) := upd_same; generalize upd H4 t1 (.tup [V.ref l1, V.ref b0]) = H5 at s5 h5
    have s35 := s4.trans s5
    obtain ⟨t1p, _⟩ := (P3.same s4).nep t1n
    walk_at "rd"
    refine r_take' (P3.same s35) (by decide) (by decide) (fun H6 d6 e6 P6 d60 d61 => ?_)
    obtain ⟨v, hv, ev⟩ := atI_in (xs := [V.ref l1, .ref b0]) d60 d61
    refine R.ixT (SqT.of (e6 _ _ t1p h5)) ev ?_
    have h6 := keep_pool (P3.same s35) e6 _ _ (s35 _ _ h3)
    have hA6 := e6 _ _ Ap (s35 _ _ hacc)
    have b0p : b0 ≠ p := fun e => by
      obtain ⟨_, _, _, _, h, _⟩ := hP.ex
      rw [← e, hbt] at h; cases h
    have b0D : b0 ≠ D := fun e => by rw [e, hD] at hbt; cases hbt
    have b0A : b0 ≠ A := fun e => by rw [e, hA] at hbt; cases hbt
    obtain ⟨b, rfl, hbn, hbs⟩ : ∃ b, v = .ref b ∧ (∀ c ∈ [p, D, A], b ≠ c) ∧ SeqA H6 b d := by
      simp only [List.mem_cons, List.not_mem_nil, or_false] at hv
      rcases hv with rfl | rfl
      · refine ⟨l1, rfl, fun c hc => ?_, .inl (e6 _ _ l1p (s5 _ _ h4))⟩
        simp only [List.mem_cons, List.not_mem_nil, or_false] at hc
        rcases hc with rfl | rfl | rfl
        · exact l1p
        · exact l1D
        · exact l1A
      · refine ⟨b0, rfl, fun c hc => ?_, .inr h6⟩
        simp only [List.mem_cons, List.not_mem_nil, or_false] at hc
        rcases hc with rfl | rfl | rfl
        · exact b0p
        · exact b0D
        · exact b0A
    refine ⟨acc, hA6, small1000 (by omega), ((e3.trans (SameBut.of s35)).trans e6).put' hA, P6.put Ap Al, acc ++ [.ref b], upd_same, by rw [List.length_append]; show _ + 1 = _; omega, fun i d' hi hd' => ?_⟩
    have up : ∀ {b' d'}, b' ≠ A → SeqA H6 b' d' → SeqA (upd H6 A (.lst (acc ++ [V.ref b]))) b' d' := fun {b' d'} n z => by
      unfold SeqA
      rw [upd_ne n]
      exact z
    by_cases hik : i < k
    · obtain ⟨b', q1, q2, q3⟩ := hel i d' hik hd'
      refine ⟨b', by rw [List.getElem?_append_left (by omega)]; exact q1, q2, up (q2 A (by simp)) ?_⟩
      exact (q3.same s35).elim (fun z => .inl (e6 _ _ (q2 p (by simp)) z)) (fun z => .inr (e6 _ _ (q2 p (by simp)) z))
    · have : i = k := by omega
      subst this
      rw [hdk] at hd'
      cases hd'
      exact ⟨b, by rw [List.getElem?_append_right (by omega), hal, Nat.sub_self]; rfl, hbn, up (hbn A (by simp)) hbs⟩
  · rintro H3 ⟨e3, P3, acc, hacc, hal, hel⟩
    refine k A H3 e3 P3 hA ⟨acc, hacc, by omega, fun i d e => hel i d ?_ e⟩
    have := (List.getElem?_eq_some_iff.mp e).1
    omega
end
end KN
end
section
set_option Elab.async false
set_option linter.all false
set_option maxRecDepth 100000
set_option maxHeartbeats 4000000
set_option pp.maxSteps 1500
set_option pp.deepTerms false
local macro_rules | `(tactic| walk_at "ne") => `(tactic| first
  | assumption | (apply Ne.symm; assumption)
  | exact R.ne_new (by assumption) | exact (R.ne_new (by assumption)).symm
  | exact L2.ne_of_none (by assumption) (by assumption) | exact (L2.ne_of_none (by assumption) (by assumption)).symm
  | exact L2.ne_of_none (by assumption) (R.free_new (by assumption)) | exact (L2.ne_of_none (by assumption) (R.free_new (by assumption))).symm)
local macro_rules | `(tactic| walk_at "at") => `(tactic| first
  | assumption | exact L2.upd_same
  | (refine R.sb (H := ?H) (p := ?p) ?e ?n ?h; (case e => assumption); (case n => walk_at "ne"); (case h => walk_at "at"))
  | (refine R.sm (H := ?H) ?e ?h; (case e => assumption); (case h => walk_at "at"))
  | (refine Eq.trans (L2.upd_ne ?_) ?_ <;> first | walk_at "ne" | walk_at "at"))
local macro_rules | `(tactic| walk_at "sqt") => `(tactic| first | assumption | (refine L2.SqT.of ?_; walk_at "at"))
local macro_rules | `(tactic| walk_at "ty") => `(tactic| first | exact R.tyN | exact R.tyB | exact R.tyI | exact R.tyS | (refine R.tyT (xs := ?xs) ?h; case h => walk_at "at") | (refine R.tyL (xs := ?xs) ?h; case h => walk_at "at"))
local macro_rules | `(tactic| walk_at "kit") => `(tactic| first | exact R.kit_NoneType_tuple | exact R.kit_NoneType_list | exact R.kit_NoneType_bool | exact R.kit_NoneType_str | exact R.kit_NoneType_int | exact R.kit_bool_tuple | exact R.kit_bool_list | exact R.kit_bool_bool | exact R.kit_bool_str | exact R.kit_bool_int | exact R.kit_int_tuple | exact R.kit_int_list | exact R.kit_int_bool | exact R.kit_int_str | exact R.kit_int_int | exact R.kit_str_tuple | exact R.kit_str_list | exact R.kit_str_bool | exact R.kit_str_str | exact R.kit_str_int | exact R.kit_tuple_tuple | exact R.kit_tuple_list | exact R.kit_tuple_bool | exact R.kit_tuple_str | exact R.kit_tuple_int | exact R.kit_list_tuple | exact R.kit_list_list | exact R.kit_list_bool | exact R.kit_list_str | exact R.kit_list_int)
local macro_rules | `(tactic| walk_at "sz") => `(tactic| first | assumption | (refine Nat.le_trans ?_ (show 1000 ≤ PySem.sizeLine by decide); omega) | decide)
local macro_rules | `(tactic| walk_at "szl") => `(tactic| first | assumption | exact Nat.le_of_lt (L2.small1000 (by omega)) | decide | decide +kernel)
local macro_rules | `(tactic| walk_at "sqa") => `(tactic| first | assumption | exact R.SeqA.same (by assumption) (by assumption) | exact R.SeqA.new (by assumption) (by assumption) | (exact Or.inl (by walk_at "at")) | (exact Or.inr (by walk_at "at")))
local macro_rules | `(tactic| walk_at "ix") => `(tactic| first | rfl | (exact L2.atI_nat (by assumption)) | assumption)
local macro_rules | `(tactic| walk_at "cond") => `(tactic| first
  | exact Or.inl (by decide) | exact Or.inr (by decide) | exact Or.inl ⟨by omega, by omega⟩ | exact Or.inr ⟨by omega, by omega⟩
  | (constructor <;> omega) | (show _ ≠ _; omega) | decide | omega)
local macro_rules | `(tactic| walk_at "r1") => `(tactic| first
  | with_reducible refine R.seq ?_ | with_reducible refine R.asg ?_ | with_reducible refine R.ifs ?_ | with_reducible refine R.ret ?_ | with_reducible refine R.retN ?_ | with_reducible refine R.drop ?_ | with_reducible refine R.next ?_
  | with_reducible refine R.op ?_ | ((with_reducible refine R.var (v := ?v) ?h ?q); case h => rfl) | with_reducible refine R.c ?_ | with_reducible refine R.tst ?_ | with_reducible refine R.tb_ ?_ | with_reducible refine R.ex ?_
  | with_reducible refine R.i0 ?_ | with_reducible refine R.eqI ?_ | with_reducible refine R.neI ?_ | ((with_reducible refine R.ic ?_ ?_); · walk_at "cond") | with_reducible refine R.u0 ?_ | with_reducible refine R.un ?_
  | ((with_reducible refine R.eq ?_ ?_); · rfl) | ((with_reducible refine R.ne ?_ ?_); · rfl)
  | with_reducible refine R.and_ ?_ | with_reducible refine R.or_ ?_ | with_reducible refine R.not_ ?_ | with_reducible refine R.ife ?_ | with_reducible refine R.chain ?_
  | with_reducible refine R.cons ?_ | with_reducible refine R.nil ?_ | with_reducible refine R.call ?_ | with_reducible refine R.cb ?_ | with_reducible refine R.bm ?_
  | with_reducible refine R.gname ?_ | with_reducible refine R.gsub ?_ | with_reducible refine R.gnil ?_ | with_reducible refine R.gcons ?_ | with_reducible refine R.yes ?_
  | with_reducible refine R.int1 ?_ | ((with_reducible refine R.lenL (xs := ?xs) ?h ?q); case h => walk_at "at")
  | ((with_reducible refine R.ixL (xs := ?xs) (v := ?v) ?h ?e ?q); (case h => walk_at "at"); (case e => walk_at "ix"))
  | ((with_reducible refine R.setL (xs := ?xs) (n := ?n) ?h ?e ?q); (case h => walk_at "at"); (case e => rfl))
  | ((with_reducible refine R.append (xs := ?xs) ?h ?e ?q); (case h => walk_at "at"); (case e => walk_at "cond"))
  | with_reducible refine R.is_ ?_ | with_reducible refine R.isnot ?_ | with_reducible refine R.andV ?_ | with_reducible refine R.orV ?_ | with_reducible refine R.notV ?_
  | ((with_reducible refine R.isi (s := ?s) (b := ?b) ?ty ?h ?q); (case ty => walk_at "ty"); (case h => walk_at "kit"))
  | ((with_reducible refine R.addS ?h ?q); (case h => walk_at "sz")) | with_reducible refine R.max2 ?_ | with_reducible refine R.min2 ?_
  | ((with_reducible refine R.lenStr ?h ?q); (case h => walk_at "szl")) | ((with_reducible refine R.ixS (n := ?n) ?h ?e ?q); (case h => walk_at "szl"); (case e => walk_at "ix"))
  | ((with_reducible refine R.tyl (xs := ?xs) ?h ?q); (case h => walk_at "at")) | with_reducible refine R.itlist ?_ | with_reducible refine R.ittup ?_ | with_reducible refine R.m1 ?_ | with_reducible refine R.m1s ?_ | with_reducible refine R.leS ?_ | with_reducible refine R.itstr ?_ | with_reducible refine R.itstrE ?_ | with_reducible refine R.lc ?_ | with_reducible refine R.for_ ?_ | ((with_reducible refine R.all_ (bs := ?bs) ?h ?q); (case h => walk_at "at"))
  | with_reducible refine R.rng1 ?_ | ((with_reducible refine R.rngE ?h ?q); (case h => (constructor <;> omega)))
  | ((with_reducible refine R.lenT (xs := ?xs) ?h ?q); (case h => walk_at "sqt")) | ((with_reducible refine R.ixT (xs := ?xs) (v := ?v) ?h ?e ?q); (case h => walk_at "sqt"); (case e => walk_at "ix"))
  | ((refine R.itlE (xs := ?xs) ?h ?q); (case h => walk_at "at")) | ((refine R.ittE (xs := ?xs) ?h ?q); (case h => walk_at "at"))
  | ((refine R.gseq (xs := ?xs) ?h ?e ?q); (case h => walk_at "sqa"); (case e => rfl)) | ((refine R.ixA (xs := ?xs) (v := ?v) ?h ?e ?q); (case h => walk_at "sqa"); (case e => walk_at "ix")) | ((refine R.lenA (xs := ?xs) ?h ?q); (case h => walk_at "sqa"))
  | ((with_reducible refine R.gtup (xs := ?xs) ?h ?e ?q); (case h => walk_at "sqt"); (case e => rfl))
  | with_reducible refine R.din_ ?_ | with_reducible refine R.dput_ ?_
  | with_reducible refine R.sfld ?_ | with_reducible refine R.fld_ ?_ | with_reducible refine R.dc ?_
  | with_reducible refine R.dget1_ ?_
  | with_reducible refine R.itseq ?_ | with_reducible refine R.itenum ?_
  | with_reducible refine R.itT ?_ | with_reducible refine R.itF ?_ | with_reducible refine R.itNT ?_ | with_reducible refine R.itNF ?_
  | (with_reducible refine R.tup ?_) | (with_reducible refine R.lst ?_))
local macro_rules | `(tactic| walk_at "rd") => `(tactic| (repeat (first | walk_at "r1" | (dsimp only [Int.reduceToNat, List.set_cons_succ, List.set_cons_zero, List.length_cons, List.length_nil, List.nil_append, List.cons_append, List.append_nil]))))
local macro_rules | `(tactic| walk_at "go") => `(tactic| (rw [R.start_eq]; dsimp only [R.startE, List.map_nil]; walk_at "rd"))
namespace KN
open PySem L2 SX R
open C8 (Cal Def cal0 pe_c pe_gc fnScope fnBody pss_cut Met pe_mt pe_mt0)
section
variable {P : Program} {w : World} {K : PySem.W.Frag} {mg : Str → Option Value} {base : Heap}
theorem orT {ta tb : TE} {σ : L2.St} {H : Hp} {Q : VK} (q : ta σ H fun x H1 => ∃ k, TruV K x H1 k ∧ if k = true then Q x H1 else tb σ H1 Q) : tOrT K ta tb σ H Q := q
def tCounts (K : PySem.W.Frag) : TS := tFor (iList K
              (tLst
                (tCons (tUn (rU fun i => V.int (-i)) (tC (V.int 1)))
                  (tCons (tC (V.int 0))
                    (tCons (tC (V.int 1))
                      (tCons (tC (V.int 2))
                        (tCons (tC (V.int 3))
                          (tCons (tC (V.int 100000))
                            (tCons
                              (tOp (rI0 fun i j => V.int (i + j))
                                (tOrT K (tOp (rIxT K) (tVar 7) (tC (V.int 2))) (tC (V.int 5))) (tC (V.int 1)))
                              (tCons (tOrT K (tOp (rIxT K) (tVar 7) (tC (V.int 2))) (tC (V.int 5)))
                                (tCons (tOp (rI CPow fun i j => V.int (i ^ j.toNat)) (tC (V.int 10)) (tC (V.int 30)))
                                  tNil)))))))))))
            (gName 11)
            (tSeq
              (tAsg
                (tAndV
                  (tOp (rI0 fun i j => V.bl (decide (j < i))) (tVar 11)
                    (tCB rIntB (tCons (tOp (rIxT K) (tVar 7) (tC (V.int 3))) tNil)))
                  (tOrV (tOp rIs (tOp (rIxT K) (tVar 7) (tC (V.int 2))) (tC V.non))
                    (tOp (rI0 fun i j => V.bl (decide (i ≤ j))) (tVar 11) (tOp (rIxT K) (tVar 7) (tC (V.int 2))))))
                (gName 12))
              (tIfS
                (tNot
                  (tB
                    (tCall (spSame 4) [] C8.E0
                      (tCons (tCall spSpoken [] C8.E0 (tCons (tVar 7) (tCons (tVar 11) tNil)))
                        (tCons (tVar 12) tNil)))))
                (tRet (tC (V.bl false))) tNext))
theorem r_counts {a p t s m D x b W : Addr} {ev best c1 c2 : Option V} {r : MR} {N : Ends} {H : Hp} (hb : H b = some (.tup (mrV r))) (gr : GoodM r)
    (k : ∀ c1 c2 H', Same H H' → N.nx [some (.ref a), some (.ref p), some (.ref t), some (.ref s), some (.ref m), some (.ref D), some (.ref x), some (.ref b), some (.ref W), ev, best, c1, c2, none, none] H') :
    tCounts K N [some (.ref a), some (.ref p), some (.ref t), some (.ref s), some (.ref m), some (.ref D), some (.ref x), some (.ref b), some (.ref W), ev, best, c1, c2, none, none] H := by
  unfold tCounts
  have e2 : atI (mrV r) 2 = some (ocnt r.c) := atI_nat (j := 2) rfl
  have e3 : atI (mrV r) 3 = some (.bl r.u) := atI_nat (j := 3) rfl
  have orv : ∀ (σ : L2.St) (Q : VK), σ[7]? = some (some (.ref b)) → Q (.int (kOf r)) H → tOrT K (tOp (rIxT K) (tVar 7) (tC (V.int 2))) (tC (V.int 5)) σ H Q := by
    intro σ Q h7 q
    refine orT ?_
    refine R.op ?_
    refine R.var h7 ?_
    refine R.c ?_
    refine R.ixT (SqT.of hb) e2 ?_
    cases hc : r.c with
    | none =>
      refine truN ?_
      rw [if_neg Bool.false_ne_true]
      have : kOf r = 5 := by unfold kOf; rw [hc]; rfl
      rw [this] at q
      exact q
    | some c =>
      have h0 : c ≠ 0 := by have := (gr.c c hc).1; omega
      refine truI h0 ?_
      rw [if_pos rfl]
      have : kOf r = c := by unfold kOf; rw [hc]; rfl
      rw [this] at q
      exact q
  walk_at "rd"
  refine orv _ _ rfl ?_
  walk_at "rd"
  refine orv _ _ rfl ?_
  walk_at "rd"
  refine ⟨by decide, fun q qn => ?_⟩; have s1 : Same H (upd H q (.lst [V.int (-1), V.int 0, V.int 1, V.int 2, V.int 3, V.int 100000, V.int (kOf r + 1), V.int (kOf r), V.int (10 ^ 30)])) := same_new (Same.refl _) qn; have h1 : upd H q (.lst [V.int (-1), V.int 0, V.int 1, V.int 2, V.int 3, V.int 100000, V.int (kOf r + 1), V.int (kOf r), V.int (10 ^ 30)]) q = some (.lst [V.int (-1), V.int 0, V.int 1, V.int 2, V.int 3, V.int 100000, V.int (kOf r + 1), V.int (kOf r), V.int (10 ^ 30)]) := upd_same; generalize upd H q (.lst [V.int (-1), V.int 0, V.int 1, V.int 2, V.int 3, V.int 100000, V.int (kOf r + 1), V.int (kOf r), V.int (10 ^ 30)]) = H1 at s1 h1
  walk_at "rd"
  refine for_it (walk_list (K := K) (a := q) (xs := [V.int (-1), V.int 0, V.int 1, V.int 2, V.int 3, V.int 100000, V.int (kOf r + 1), V.int (kOf r), V.int (10 ^ 30)])) (fun i σ' H' => ∃ c1 c2, σ' = [some (.ref a), some (.ref p), some (.ref t), some (.ref s), some (.ref m), some (.ref D), some (.ref x), some (.ref b), some (.ref W), ev, best, c1, c2, none, none] ∧ Same H1 H')
    ⟨c1, c2, rfl, Same.refl _⟩ (fun i σ' H' _ hp => by obtain ⟨_, _, _, s2⟩ := hp; exact SqL.of (s2 _ _ h1)) ?_ ?_
  · rintro i u σ' H2 H2' hi ⟨c1, c2, rfl, s2⟩ ⟨rfl, hu⟩
    obtain ⟨n, rfl⟩ : ∃ n, u = V.int n := by
      have := List.mem_of_getElem? hu
      simp only [List.mem_cons, List.not_mem_nil, or_false] at this
      rcases this with h | h | h | h | h | h | h | h | h <;> exact ⟨_, h⟩
    have hb2 := s2 _ _ (s1 _ _ hb)
    walk_at "rd"
    refine ⟨r.u, rfl, ?_⟩
    have de := due_eq r n
    walk_at "rd"
    refine it (fun hd => ?_) (fun hd => ?_)
    · walk_at "rd"
      rw [decide_eq_true hd, Bool.true_and] at de
      cases hc : r.c with
      | none =>
        rw [hc] at e2 de
        refine R.itY rfl ?_
        walk_at "rd"
        refine ⟨b, r, n, rfl, hb2, ?_⟩
        walk_at "rd"
        refine r_same4 (by rw [de]; exact eqd_scal (.bl _)) fun H4 s4 => ?_
        walk_at "rd"
        exact ⟨_, _, rfl, s2.trans s4⟩
      | some c =>
        rw [hc] at e2 de
        refine R.itN (fun z => nomatch z) ?_
        walk_at "rd"
        rw [hc, show ocnt (some c) = V.int c from rfl]
        walk_at "rd"
        refine ⟨b, r, n, rfl, hb2, ?_⟩
        walk_at "rd"
        refine r_same4 (by rw [de]; exact eqd_scal (.bl _)) fun H4 s4 => ?_
        walk_at "rd"
        exact ⟨_, _, rfl, s2.trans s4⟩
    · rw [decide_eq_false hd, Bool.false_and] at de
      walk_at "rd"
      refine ⟨b, r, n, rfl, hb2, ?_⟩
      walk_at "rd"
      refine r_same4 (by rw [de]; exact eqd_scal (.bl _)) fun H4 s4 => ?_
      walk_at "rd"
      exact ⟨_, _, rfl, s2.trans s4⟩
  · rintro σ' H2 ⟨c1, c2, rfl, s2⟩
    exact k _ _ _ (s1.trans s2)
def tTexts (K : PySem.W.Frag) : TS := tFor (iList K (tLst (tCons (tC (V.str (Str.ofString ""))) (tCons (tC (V.str (Str.ofString "a"))) (tCons (tC (V.str (Str.ofString "abcdefgh"))) (tCons (tC (V.str (Str.ofString "abcdefghi"))) (tCons (tC (V.str (Str.ofString "aB"))) (tCons (tC (V.str (Str.ofString "a1"))) (tCons (tC (V.str (Str.ofString " "))) (tCons (tC (V.str (Str.ofString "z\n"))) (tCons (tC (V.str (Str.ofString "-"))) tNil)))))))))))
  (gName 13) (tIfS (tNot (tB (tCall (spSame 4) [] C8.E0 (tCons (tCall spIsword [] C8.E0 (tCons (tVar 13) tNil)) (tCons (tOp (rIn K false) (tVar 13) (tLst (tCons (tC (V.str (Str.ofString "a"))) (tCons (tC (V.str (Str.ofString "abcdefgh"))) tNil)))) tNil))))) (tRet (tC (V.bl false))) tNext)
abbrev nine : List Str := [Str.ofString "", Str.ofString "a", Str.ofString "abcdefgh", Str.ofString "abcdefghi", Str.ofString "aB", Str.ofString "a1", Str.ofString " ", Str.ofString "z\n", Str.ofString "-"]
theorem nine_ok : ∀ z ∈ nine, z.length ≤ 1000 ∧ inV (.str z) [V.str (Str.ofString "a"), V.str (Str.ofString "abcdefgh")] = okWord z := by decide +kernel
theorem r_texts {v0 v1 v2 v3 v4 v5 v6 v7 v8 v9 v10 v11 v12 v13 : Option V} {N : Ends} {H : Hp}
    (k : ∀ tx H', Same H H' → N.nx [v0, v1, v2, v3, v4, v5, v6, v7, v8, v9, v10, v11, v12, tx, none] H') : tTexts K N [v0, v1, v2, v3, v4, v5, v6, v7, v8, v9, v10, v11, v12, v13, none] H := by
  unfold tTexts
  walk_at "rd"
  refine ⟨by decide, fun q qn => ?_⟩; have s1 : Same H (upd H q (.lst [V.str (Str.ofString ""), V.str (Str.ofString "a"), V.str (Str.ofString "abcdefgh"), V.str (Str.ofString "abcdefghi"), V.str (Str.ofString "aB"), V.str (Str.ofString "a1"), V.str (Str.ofString " "), V.str (Str.ofString "z\n"), V.str (Str.ofString "-")])) := same_new (Same.refl _) qn; have h1 : upd H q (.lst [V.str (Str.ofString ""), V.str (Str.ofString "a"), V.str (Str.ofString "abcdefgh"), V.str (Str.ofString "abcdefghi"), V.str (Str.ofString "aB"), V.str (Str.ofString "a1"), V.str (Str.ofString " "), V.str (Str.ofString "z\n"), V.str (Str.ofString "-")]) q = some (.lst [V.str (Str.ofString ""), V.str (Str.ofString "a"), V.str (Str.ofString "abcdefgh"), V.str (Str.ofString "abcdefghi"), V.str (Str.ofString "aB"), V.str (Str.ofString "a1"), V.str (Str.ofString " "), V.str (Str.ofString "z\n"), V.str (Str.ofString "-")]) := upd_same; generalize upd H q (.lst [V.str (Str.ofString ""), V.str (Str.ofString "a"), V.str (Str.ofString "abcdefgh"), V.str (Str.ofString "abcdefghi"), V.str (Str.ofString "aB"), V.str (Str.ofString "a1"), V.str (Str.ofString " "), V.str (Str.ofString "z\n"), V.str (Str.ofString "-")]) = H1 at s1 h1
  walk_at "rd"
  refine for_it (walk_list (K := K) (a := q) (xs := [V.str (Str.ofString ""), V.str (Str.ofString "a"), V.str (Str.ofString "abcdefgh"), V.str (Str.ofString "abcdefghi"), V.str (Str.ofString "aB"), V.str (Str.ofString "a1"), V.str (Str.ofString " "), V.str (Str.ofString "z\n"), V.str (Str.ofString "-")])) (fun i σ' H' => ∃ tx, σ' = [v0, v1, v2, v3, v4, v5, v6, v7, v8, v9, v10, v11, v12, tx, none] ∧ Same H1 H')
    ⟨v13, rfl, Same.refl _⟩ (fun i σ' H' _ hp => by obtain ⟨_, _, s2⟩ := hp; exact SqL.of (s2 _ _ h1)) ?_ ?_
  · rintro i u σ' H2 H2' hi ⟨tx, rfl, s2⟩ ⟨rfl, hu⟩
    change (nine.map V.str)[i]? = some u at hu
    obtain ⟨z, hz, rfl⟩ := List.mem_map.mp (List.mem_of_getElem? hu)
    obtain ⟨z1, z2⟩ := nine_ok z hz
    walk_at "rd"
    refine ⟨z, rfl, z1, fun H3 s3 => ?_⟩
    walk_at "rd"
    refine ⟨by decide, fun c cn => ?_⟩; have s4 : Same H3 (upd H3 c (.lst [V.str (Str.ofString "a"), V.str (Str.ofString "abcdefgh")])) := same_new (Same.refl _) cn; have h4 : upd H3 c (.lst [V.str (Str.ofString "a"), V.str (Str.ofString "abcdefgh")]) c = some (.lst [V.str (Str.ofString "a"), V.str (Str.ofString "abcdefgh")]) := upd_same; generalize upd H3 c (.lst [V.str (Str.ofString "a"), V.str (Str.ofString "abcdefgh")]) = H4 at s4 h4
    refine ⟨c, _, rfl, .inl (SqL.of h4), rfl, rfl, ?_⟩
    rw [if_neg Bool.false_ne_true, z2]
    walk_at "rd"
    refine r_same4 (eqd_scal (.bl _)) fun H5 s5 => ?_
    walk_at "rd"
    exact ⟨_, rfl, s2.trans ((s3.trans s4).trans s5)⟩
  · rintro σ' H2 ⟨tx, rfl, s2⟩
    exact k _ _ (s1.trans s2)
end
end KN
end
section
set_option Elab.async false
set_option linter.all false
set_option maxRecDepth 100000
set_option maxHeartbeats 4000000
set_option pp.maxSteps 1500
set_option pp.deepTerms false
local macro_rules | `(tactic| walk_at "ne") => `(tactic| first
  | assumption | (apply Ne.symm; assumption)
  | exact R.ne_new (by assumption) | exact (R.ne_new (by assumption)).symm
  | exact L2.ne_of_none (by assumption) (by assumption) | exact (L2.ne_of_none (by assumption) (by assumption)).symm
  | exact L2.ne_of_none (by assumption) (R.free_new (by assumption)) | exact (L2.ne_of_none (by assumption) (R.free_new (by assumption))).symm)
local macro_rules | `(tactic| walk_at "at") => `(tactic| first
  | assumption | exact L2.upd_same
  | (refine R.sb (H := ?H) (p := ?p) ?e ?n ?h; (case e => assumption); (case n => walk_at "ne"); (case h => walk_at "at"))
  | (refine R.sm (H := ?H) ?e ?h; (case e => assumption); (case h => walk_at "at"))
  | (refine Eq.trans (L2.upd_ne ?_) ?_ <;> first | walk_at "ne" | walk_at "at"))
local macro_rules | `(tactic| walk_at "sqt") => `(tactic| first | assumption | (refine L2.SqT.of ?_; walk_at "at"))
local macro_rules | `(tactic| walk_at "ty") => `(tactic| first | exact R.tyN | exact R.tyB | exact R.tyI | exact R.tyS | (refine R.tyT (xs := ?xs) ?h; case h => walk_at "at") | (refine R.tyL (xs := ?xs) ?h; case h => walk_at "at"))
local macro_rules | `(tactic| walk_at "kit") => `(tactic| first | exact R.kit_NoneType_tuple | exact R.kit_NoneType_list | exact R.kit_NoneType_bool | exact R.kit_NoneType_str | exact R.kit_NoneType_int | exact R.kit_bool_tuple | exact R.kit_bool_list | exact R.kit_bool_bool | exact R.kit_bool_str | exact R.kit_bool_int | exact R.kit_int_tuple | exact R.kit_int_list | exact R.kit_int_bool | exact R.kit_int_str | exact R.kit_int_int | exact R.kit_str_tuple | exact R.kit_str_list | exact R.kit_str_bool | exact R.kit_str_str | exact R.kit_str_int | exact R.kit_tuple_tuple | exact R.kit_tuple_list | exact R.kit_tuple_bool | exact R.kit_tuple_str | exact R.kit_tuple_int | exact R.kit_list_tuple | exact R.kit_list_list | exact R.kit_list_bool | exact R.kit_list_str | exact R.kit_list_int)
local macro_rules | `(tactic| walk_at "sz") => `(tactic| first | assumption | (refine Nat.le_trans ?_ (show 1000 ≤ PySem.sizeLine by decide); omega) | decide)
local macro_rules | `(tactic| walk_at "szl") => `(tactic| first | assumption | exact Nat.le_of_lt (L2.small1000 (by omega)) | decide | decide +kernel)
local macro_rules | `(tactic| walk_at "sqa") => `(tactic| first | assumption | exact R.SeqA.same (by assumption) (by assumption) | exact R.SeqA.new (by assumption) (by assumption) | (exact Or.inl (by walk_at "at")) | (exact Or.inr (by walk_at "at")))
local macro_rules | `(tactic| walk_at "ix") => `(tactic| first | rfl | (exact L2.atI_nat (by assumption)) | assumption)
local macro_rules | `(tactic| walk_at "cond") => `(tactic| first
  | exact Or.inl (by decide) | exact Or.inr (by decide) | exact Or.inl ⟨by omega, by omega⟩ | exact Or.inr ⟨by omega, by omega⟩
  | (constructor <;> omega) | (show _ ≠ _; omega) | decide | omega)
local macro_rules | `(tactic| walk_at "r1") => `(tactic| first
  | with_reducible refine R.seq ?_ | with_reducible refine R.asg ?_ | with_reducible refine R.ifs ?_ | with_reducible refine R.ret ?_ | with_reducible refine R.retN ?_ | with_reducible refine R.drop ?_ | with_reducible refine R.next ?_
  | with_reducible refine R.op ?_ | ((with_reducible refine R.var (v := ?v) ?h ?q); case h => rfl) | with_reducible refine R.c ?_ | with_reducible refine R.tst ?_ | with_reducible refine R.tb_ ?_ | with_reducible refine R.ex ?_
  | with_reducible refine R.i0 ?_ | with_reducible refine R.eqI ?_ | with_reducible refine R.neI ?_ | ((with_reducible refine R.ic ?_ ?_); · walk_at "cond") | with_reducible refine R.u0 ?_ | with_reducible refine R.un ?_
  | ((with_reducible refine R.eq ?_ ?_); · rfl) | ((with_reducible refine R.ne ?_ ?_); · rfl)
  | with_reducible refine R.and_ ?_ | with_reducible refine R.or_ ?_ | with_reducible refine R.not_ ?_ | with_reducible refine R.ife ?_ | with_reducible refine R.chain ?_
  | with_reducible refine R.cons ?_ | with_reducible refine R.nil ?_ | with_reducible refine R.call ?_ | with_reducible refine R.cb ?_ | with_reducible refine R.bm ?_
  | with_reducible refine R.gname ?_ | with_reducible refine R.gsub ?_ | with_reducible refine R.gnil ?_ | with_reducible refine R.gcons ?_ | with_reducible refine R.yes ?_
  | with_reducible refine R.int1 ?_ | ((with_reducible refine R.lenL (xs := ?xs) ?h ?q); case h => walk_at "at")
  | ((with_reducible refine R.ixL (xs := ?xs) (v := ?v) ?h ?e ?q); (case h => walk_at "at"); (case e => walk_at "ix"))
  | ((with_reducible refine R.setL (xs := ?xs) (n := ?n) ?h ?e ?q); (case h => walk_at "at"); (case e => rfl))
  | ((with_reducible refine R.append (xs := ?xs) ?h ?e ?q); (case h => walk_at "at"); (case e => walk_at "cond"))
  | with_reducible refine R.is_ ?_ | with_reducible refine R.isnot ?_ | with_reducible refine R.andV ?_ | with_reducible refine R.orV ?_ | with_reducible refine R.notV ?_
  | ((with_reducible refine R.isi (s := ?s) (b := ?b) ?ty ?h ?q); (case ty => walk_at "ty"); (case h => walk_at "kit"))
  | ((with_reducible refine R.addS ?h ?q); (case h => walk_at "sz")) | with_reducible refine R.max2 ?_ | with_reducible refine R.min2 ?_
  | ((with_reducible refine R.lenStr ?h ?q); (case h => walk_at "szl")) | ((with_reducible refine R.ixS (n := ?n) ?h ?e ?q); (case h => walk_at "szl"); (case e => walk_at "ix"))
  | ((with_reducible refine R.tyl (xs := ?xs) ?h ?q); (case h => walk_at "at")) | with_reducible refine R.itlist ?_ | with_reducible refine R.ittup ?_ | with_reducible refine R.m1 ?_ | with_reducible refine R.m1s ?_ | with_reducible refine R.leS ?_ | with_reducible refine R.itstr ?_ | with_reducible refine R.itstrE ?_ | with_reducible refine R.lc ?_ | with_reducible refine R.for_ ?_ | ((with_reducible refine R.all_ (bs := ?bs) ?h ?q); (case h => walk_at "at"))
  | with_reducible refine R.rng1 ?_ | ((with_reducible refine R.rngE ?h ?q); (case h => (constructor <;> omega)))
  | ((with_reducible refine R.lenT (xs := ?xs) ?h ?q); (case h => walk_at "sqt")) | ((with_reducible refine R.ixT (xs := ?xs) (v := ?v) ?h ?e ?q); (case h => walk_at "sqt"); (case e => walk_at "ix"))
  | ((refine R.itlE (xs := ?xs) ?h ?q); (case h => walk_at "at")) | ((refine R.ittE (xs := ?xs) ?h ?q); (case h => walk_at "at"))
  | ((refine R.gseq (xs := ?xs) ?h ?e ?q); (case h => walk_at "sqa"); (case e => rfl)) | ((refine R.ixA (xs := ?xs) (v := ?v) ?h ?e ?q); (case h => walk_at "sqa"); (case e => walk_at "ix")) | ((refine R.lenA (xs := ?xs) ?h ?q); (case h => walk_at "sqa"))
  | ((with_reducible refine R.gtup (xs := ?xs) ?h ?e ?q); (case h => walk_at "sqt"); (case e => rfl))
  | with_reducible refine R.din_ ?_ | with_reducible refine R.dput_ ?_
  | with_reducible refine R.sfld ?_ | with_reducible refine R.fld_ ?_ | with_reducible refine R.dc ?_
  | with_reducible refine R.dget1_ ?_
  | with_reducible refine R.itseq ?_ | with_reducible refine R.itenum ?_
  | with_reducible refine R.itT ?_ | with_reducible refine R.itF ?_ | with_reducible refine R.itNT ?_ | with_reducible refine R.itNF ?_
  | (with_reducible refine R.tup ?_) | (with_reducible refine R.lst ?_))
local macro_rules | `(tactic| walk_at "rd") => `(tactic| (repeat (first | walk_at "r1" | (dsimp only [Int.reduceToNat, List.set_cons_succ, List.set_cons_zero, List.length_cons, List.length_nil, List.nil_append, List.cons_append, List.append_nil]))))
local macro_rules | `(tactic| walk_at "go") => `(tactic| (rw [R.start_eq]; dsimp only [R.startE, List.map_nil]; walk_at "rd"))
namespace KN
open PySem L2 SX R
open C8 (Cal Def cal0 pe_c pe_gc fnScope fnBody pss_cut Met pe_mt pe_mt0)
section
variable {P : Program} {w : World} {K : PySem.W.Frag} {mg : Str → Option Value} {base : Heap}
theorem ok_law (Z : Zs mg) {S C fS : Addr} {fdS : FuncData} (TS : SysK K S) (gS : mg "System" = some (.ref S)) (MS : Mk K S fS) (GS : FnOk P w K mg base (L2.CX P w) 4 fS fdS ["self", "simple", "multipliers"] (spSysI S C)) (bS : Binds K fdS ["self", "simple", "multipliers"] [])
    (c_pool : Cal P w K mg base 1 "_law_pool" (spPool K) []) (c_take : Cal P w K mg base 2 "_law_take" spTake []) (c_rows : Cal P w K mg base 4 "_law_rows" spRows []) (c_great : Cal P w K mg base 4 "_law_great" spGreat [])
    (c_same : Cal P w K mg base 6 "_law_same" (spSame 4) []) (c_is_spoken : Cal P w K mg base 1 "is_spoken" spSpoken []) (c_is_word : Cal P w K mg base 1 "is_word" spIsword []) (c_is_refused : Cal P w K mg base 7 "_law_is_refused" spRefd [])
    (m_words : Met P w K mg base 1 S "words" (spWords S) []) (m_simple_value : Met P w K mg base 1 S "simple_value" (spSv S) []) (m_multiplier : Met P w K mg base 1 S "multiplier" (spMl S) []) (m_endless : Met P w K mg base 1 S "endless" (spEl S) []) (m_bounded_maximum : Met P w K mg base 1 S "bounded_maximum" (spBm S) [])
    {f : Addr} {fd : FuncData} (F : Fun K "law" "law" sLaw f fd) : FnOk P w K mg base CX0 8 f fd ["script"] (spTop K) := by
  refine F.ok scLaw (fun vs H Q E h => ?_) (fun cdv A outer s H vs Q E hr h => ?_)
  · obtain ⟨a, ns, rfl, _⟩ := h
    rfl
  · obtain ⟨a, ns, rfl, hS, hlen, k⟩ := h
    refine ⟨_, pss_cons (ps_set (i := 1) scLaw.nd rfl (Or.inr rfl) (pe_c c_pool hr (by omega) (by rfl) (pa_cons (pv 0) pa_nil)))
      (pss_cons (ps_set (i := 2) scLaw.nd rfl (Or.inl rfl) (pe_c c_rows hr (by omega) (by rfl) (pa_cons (pv 1) (pa_cons pe_int (pa_cons pe_int (pa_cons pe_int pa_nil))))))
      (pss_cut (ps_if (pt_cmpR op_eq (pe_c c_take hr (by omega) (by rfl) (pa_cons (pv 1) (pa_cons pe_int pa_nil))) pe_int (nomark _))
        (pss_one (ps_expr (pe_c c_great hr (by omega) (by rfl) (pa_cons (pv 1) (pa_cons (pv 2) pa_nil)))))
        (pss_nil))
      (pss_cut (ps_asg (pv 2) (kgTup K (n := 2) rfl (pgs_cons (pg_name (i := 3) scLaw.nd rfl (Or.inl rfl)) (pgs_cons (pg_name (i := 4) scLaw.nd rfl (Or.inl rfl)) pgs_nil))))
      (pss_cut (ps_setLc (i := 5) (own := [("part", 14)]) (g := gName 14) (tt := tYes) rfl scLaw.nd rfl rfl (sw_true rfl rfl rfl (by decide +kernel)) (kiT K (pv 2)) (blkOk_by (own := [("part", 14)]) (N := ["script", "pool", "rows", "simple", "multipliers", "passed", "system", "row", "words", "endless", "best", "count", "due", "text", "part"]) (sc := fnScope sLaw) (by decide +kernel)) (fun _ _ _ _ _ => (pg_name (i := 14) scLaw.nd rfl (Or.inl rfl))) (fun _ _ _ _ _ => pts_nil) (fun _ _ _ _ _ => pe_lc (own := [("row", 7)]) (g := gName 7) (tt := tYes) rfl scLaw.nd (kiL K (pv 14)) (blkOk_in (own := [("row", 7)]) (N := ["script", "pool", "rows", "simple", "multipliers", "passed", "system", "row", "words", "endless", "best", "count", "due", "text", "part"]) (sc := ({ kind := .function, names := [(".0", .local), ("part", .local), ("pool", .free)], isGenerator := false, isCoroutine := false } : Scope)) (by decide +kernel)) (fun _ _ _ _ _ => (pg_name (i := 7) scLaw.nd rfl (Or.inl rfl))) (fun _ _ _ _ _ => pts_nil) (fun _ _ _ _ _ => pe_ix (kIxT K) (pe_tup (pa_cons (pe_callTy (kList K) (by rfl) Z.list (by decide +kernel) (pa_cons (pv 7) pa_nil)) (pa_cons (pv 7) pa_nil))) (pe_c c_take hr (by omega) (by rfl) (pa_cons (pv 1) (pa_cons pe_int pa_nil))) (fun _ _ => rfl))))
      (pss_cut (ps_set (i := 6) scLaw.nd rfl (Or.inl rfl) (pe_make MS GS (hr.mono (by omega)) rfl gS bS .nil passF (pa_cons (pe_ix (kIxL K) (pv 5) pe_int (fun _ _ => rfl)) (pa_cons (pe_ix (kIxT K) (pe_tup (pa_cons (pe_ix (kIxL K) (pv 5) pe_int (fun _ _ => rfl)) (pa_cons (pe_callTy (kTuple K) (by rfl) Z.tuple (by decide +kernel) (pa_cons (pe_ix (kIxL K) (pv 5) pe_int (fun _ _ => rfl)) pa_nil)) pa_nil))) (pe_c c_take hr (by omega) (by rfl) (pa_cons (pv 1) (pa_cons pe_int pa_nil))) (fun _ _ => rfl)) pa_nil))))
      (pss_cut (ps_for PassesOwn.never rfl (kiL K (pe_op op_cat (pe_ix (kIxL K) (pv 5) pe_int (fun _ _ => rfl)) (pe_ix (kIxL K) (pv 5) pe_int (fun _ _ => rfl)))) (pg_name (i := 7) scLaw.nd rfl (Or.inl rfl))
        (pss_one (ps_if (pt_val (pe_callB (kIsi K) (by rfl) Z.isinstance (by decide +kernel) (pa_cons (pv 7) (pa_cons (pe_bltn (v := .ty "list") (by rfl) Z.list (by decide +kernel) rfl) pa_nil))))
        (pss_one (ps_asg pe_int (pg_sub (pv 7) pe_int set_list)))
        (pss_nil))))
      (pss_cut (ps_expr (kBM K (pe_bm PySem.F.plainAttrs_list PySem.F.slot_list_append PySem.F.type_list_append mt_append (pe_ix (kIxL K) (pv 5) pe_int (fun _ _ => rfl)) (pa_cons (pe_tup (pa_cons pe_str (pa_cons pe_int pa_nil))) pa_nil))))
      (pss_cut (ps_expr (kBM K (pe_bm PySem.F.plainAttrs_list PySem.F.slot_list_append PySem.F.type_list_append mt_append (pe_ix (kIxL K) (pv 5) pe_int (fun _ _ => rfl)) (pa_cons (pe_tup (pa_cons pe_str (pa_cons pe_int (pa_cons pe_int (pa_cons pe_bl (pa_cons pe_int pa_nil)))))) pa_nil))))
      (pss_cut (ps_if (pt_not (pt_val (pe_c c_same hr (by omega) (by rfl) (pa_cons (pe_tup (pa_cons (kFld K (pv 6)) (pa_cons (kFld K (pv 6)) pa_nil))) (pa_cons (pe_tup (pa_cons (pe_callTy (kTuple K) (by rfl) Z.tuple (by decide +kernel) (pa_cons (pv 3) pa_nil)) (pa_cons (pe_callTy (kTuple K) (by rfl) Z.tuple (by decide +kernel) (pa_cons (pv 4) pa_nil)) pa_nil))) pa_nil)))))
        (pss_one (ps_ret pe_bl))
        (pss_nil))
      (pss_cut (ps_set (i := 8) scLaw.nd rfl (Or.inl rfl) (pe_callTy (kTuple K) (by rfl) Z.tuple (by decide +kernel) (pa_cons (pe_lc (own := [("row", 7)]) (g := gName 7) (tt := tYes) rfl scLaw.nd (kiL K (pe_op op_cat (pv 3) (pv 4))) (blkOk_by (own := [("row", 7)]) (N := ["script", "pool", "rows", "simple", "multipliers", "passed", "system", "row", "words", "endless", "best", "count", "due", "text", "part"]) (sc := fnScope sLaw) (by decide +kernel)) (fun _ _ _ _ _ => (pg_name (i := 7) scLaw.nd rfl (Or.inl rfl))) (fun _ _ _ _ _ => pts_nil) (fun _ _ _ _ _ => pe_ix (kIxT K) (pv 7) pe_int (fun _ _ => rfl))) pa_nil)))
      (pss_cut (ps_if (pt_not (pt_val (pe_c c_same hr (by omega) (by rfl) (pa_cons (pe_mt0 m_words hr (by omega) (pv 6)) (pa_cons (pv 8) pa_nil)))))
        (pss_one (ps_ret pe_bl))
        (pss_nil))
      (pss_cut (ps_for PassesOwn.never rfl (kiL K (pv 3)) (pg_name (i := 7) scLaw.nd rfl (Or.inl rfl))
        (pss_one (ps_if (pt_not (pt_val (pe_c c_same hr (by omega) (by rfl) (pa_cons (pe_tup (pa_cons (pe_mt m_simple_value hr (by omega) (pv 6) (pa_cons (pe_ix (kIxT K) (pv 7) pe_int (fun _ _ => rfl)) pa_nil)) (pa_cons (pe_mt m_multiplier hr (by omega) (pv 6) (pa_cons (pe_ix (kIxT K) (pv 7) pe_int (fun _ _ => rfl)) pa_nil)) pa_nil))) (pa_cons (pe_tup (pa_cons (pe_ix (kIxT K) (pv 7) pe_int (fun _ _ => rfl)) (pa_cons pe_non pa_nil))) pa_nil)))))
        (pss_one (ps_ret pe_bl))
        (pss_nil))))
      (pss_cut (ps_set (i := 9) scLaw.nd rfl (Or.inl rfl) pe_non)
      (pss_cut (ps_set (i := 10) scLaw.nd rfl (Or.inl rfl) (pe_callB (kMax K) (by rfl) Z.max (by decide +kernel) (pa_cons (pe_op op_cat (pe_lst (pa_cons pe_int pa_nil)) (pe_lc (own := [("row", 7)]) (g := gName 7) (tt := tYes) rfl scLaw.nd (kiL K (pv 3)) (blkOk_by (own := [("row", 7)]) (N := ["script", "pool", "rows", "simple", "multipliers", "passed", "system", "row", "words", "endless", "best", "count", "due", "text", "part"]) (sc := fnScope sLaw) (by decide +kernel)) (fun _ _ _ _ _ => (pg_name (i := 7) scLaw.nd rfl (Or.inl rfl))) (fun _ _ _ _ _ => pts_nil) (fun _ _ _ _ _ => pe_ix (kIxT K) (pv 7) pe_int (fun _ _ => rfl)))) pa_nil)))
      (pss_cut (ps_for PassesOwn.never rfl (kiL K (pv 4)) (pg_name (i := 7) scLaw.nd rfl (Or.inl rfl))
        (pss_cons (ps_if (pt_not (pt_val (pe_c c_same hr (by omega) (by rfl) (pa_cons (pe_tup (pa_cons (pe_mt m_simple_value hr (by omega) (pv 6) (pa_cons (pe_ix (kIxT K) (pv 7) pe_int (fun _ _ => rfl)) pa_nil)) (pa_cons (pe_mt m_multiplier hr (by omega) (pv 6) (pa_cons (pe_ix (kIxT K) (pv 7) pe_int (fun _ _ => rfl)) pa_nil)) pa_nil))) (pa_cons (pe_tup (pa_cons pe_non (pa_cons (pv 7) pa_nil))) pa_nil)))))
        (pss_one (ps_ret pe_bl))
        (pss_nil))
      (pss_cons (ps_if (pt_cmpR oIs (pe_ix (kIxT K) (pv 7) pe_int (fun _ _ => rfl)) pe_non (nomark _))
        (pss_one (ps_set (i := 9) scLaw.nd rfl (Or.inl rfl) (pv 7)))
        (pss_one (ps_set (i := 10) scLaw.nd rfl (Or.inl rfl) (pe_callB kMax2 (by rfl) Z.max (by decide +kernel) (pa_cons (pv 10) (pa_cons (pe_op op_add (pe_op op_mul (pe_ix (kIxT K) (pv 7) pe_int (fun _ _ => rfl)) (pe_ix (kIxT K) (pv 7) pe_int (fun _ _ => rfl))) (pe_ix (kIxT K) (pv 7) pe_int (fun _ _ => rfl))) pa_nil))))))
      (pss_one (ps_for PassesOwn.never rfl (kiL K (pe_lst (pa_cons (pe_un un_neg pe_int) (pa_cons pe_int (pa_cons pe_int (pa_cons pe_int (pa_cons pe_int (pa_cons pe_int (pa_cons (pe_op op_add (kOrT K (pe_ix (kIxT K) (pv 7) pe_int (fun _ _ => rfl)) (pe_one pe_int)) pe_int) (pa_cons (kOrT K (pe_ix (kIxT K) (pv 7) pe_int (fun _ _ => rfl)) (pe_one pe_int)) (pa_cons (pe_op op_pow pe_int pe_int) pa_nil))))))))))) (pg_name (i := 11) scLaw.nd rfl (Or.inl rfl))
        (pss_cons (ps_set (i := 12) scLaw.nd rfl (Or.inl rfl) (pe_and (pe_cmpR op_gt (pv 11) (pe_callTy cIntB (by rfl) Z.int (by decide +kernel) (pa_cons (pe_ix (kIxT K) (pv 7) pe_int (fun _ _ => rfl)) pa_nil)) (nomark _)) (pe_one (pe_or (pe_cmpR oIs (pe_ix (kIxT K) (pv 7) pe_int (fun _ _ => rfl)) pe_non (nomark _)) (pe_one (pe_cmpR op_le (pv 11) (pe_ix (kIxT K) (pv 7) pe_int (fun _ _ => rfl)) (nomark _)))))))
      (pss_one (ps_if (pt_not (pt_val (pe_c c_same hr (by omega) (by rfl) (pa_cons (pe_c c_is_spoken hr (by omega) (by rfl) (pa_cons (pv 7) (pa_cons (pv 11) pa_nil))) (pa_cons (pv 12) pa_nil)))))
        (pss_one (ps_ret pe_bl))
        (pss_nil)))))))))
      (pss_cut (ps_if (pt_not (pt_val (pe_c c_same hr (by omega) (by rfl) (pa_cons (pe_tup (pa_cons (pe_mt0 m_endless hr (by omega) (pv 6)) (pa_cons (pe_mt0 m_bounded_maximum hr (by omega) (pv 6)) pa_nil))) (pa_cons (pe_tup (pa_cons (pv 9) (pa_cons (pv 10) pa_nil))) pa_nil)))))
        (pss_one (ps_ret pe_bl))
        (pss_nil))
      (pss_cut (ps_if (pt_not (pt_val (pe_c c_same hr (by omega) (by rfl) (pa_cons (pe_tup (pa_cons (pe_mt m_simple_value hr (by omega) (pv 6) (pa_cons pe_str pa_nil)) (pa_cons (pe_mt m_multiplier hr (by omega) (pv 6) (pa_cons pe_str pa_nil)) pa_nil))) (pa_cons (pe_tup (pa_cons pe_non (pa_cons pe_non pa_nil))) pa_nil)))))
        (pss_one (ps_ret pe_bl))
        (pss_nil))
      (pss_cut (ps_for PassesOwn.never rfl (kiL K (pe_lst (pa_cons pe_str (pa_cons pe_str (pa_cons pe_str (pa_cons pe_str (pa_cons pe_str (pa_cons pe_str (pa_cons pe_str (pa_cons pe_str (pa_cons pe_str pa_nil))))))))))) (pg_name (i := 13) scLaw.nd rfl (Or.inl rfl))
        (pss_one (ps_if (pt_not (pt_val (pe_c c_same hr (by omega) (by rfl) (pa_cons (pe_c c_is_word hr (by omega) (by rfl) (pa_cons (pv 13) pa_nil)) (pa_cons (pe_cmpR (kIn K) (pv 13) (pe_lst (pa_cons pe_str (pa_cons pe_str pa_nil))) (by rfl)) pa_nil)))))
        (pss_one (ps_ret pe_bl))
        (pss_nil))))
      (pss_one (ps_ret (pe_c c_is_refused hr (by omega) (by rfl) (pa_cons (pv 1) (pa_cons (pv 3) (pa_cons (pv 4) pa_nil)))))))))))))))))))))))), ?_⟩
    walk_at "go"
    refine ⟨a, ns, rfl, hS, hlen, fun H1 p l s1 np nl P1 => ?_⟩
    refine R.gname ?_
    dsimp only [List.set_cons_succ, List.set_cons_zero, List.map_nil]
    walk_at "rd"
    refine ⟨p, l, 6, 12, 8, rfl, P1, by decide, by decide, by decide, by decide, by decide, by decide, fun H2 t s m xs ys rs ms e2 P2 nt n_s nm sm ht hs hm sp sl mp ml hts htm hok => ?_⟩
    have L2' : LS H2 p l t s m xs ys rs ms := ⟨P2, ht, hs, hm, sp, mp, hts, htm⟩
    have hg2 := good_of hok
    clear hts htm ht hs hm hok e2 P1 P2
    walk_at "rd"
    refine R.cut (fun (σ' : L2.St) (H' : Hp) => σ' = [some (.ref a), some (.ref p), some (.ref t), none, none, none, none, none, none, none, none, none, none, none, none] ∧ ∃ xs ys rs ms, LS H' p l t s m xs ys rs ms ∧ GoodSys rs ms) ?_ ?_
    · walk_at "rd"
      refine r_take' L2'.P (by decide) (by decide) (fun H3 d e3 P3 _ _ => ?_)
      have L3 := L2'.take e3 P3
      walk_at "rd"
      refine it (fun hd => ?_) (fun hd => ?_)
      · walk_at "rd"
        refine ⟨p, l, t, s, m, xs, ys, rs, ms, rfl, L3.P, L3.ht, L3.hs, L3.hm, sm, sp, sl, mp, ml, L3.ts, L3.tm, hg2, fun H4 xs' ys' rs' ms' k4 P4 hs4 hm4 ts4 tm4 hg4 => ?_⟩
        have tp : t ≠ p := fun e => by
          obtain ⟨_, _, _, _, h, _⟩ := L3.P.ex
          rw [← e, L3.ht] at h; cases h
        have tS : t ≠ s := fun e => by have := L3.ht; rw [e, L3.hs] at this; cases this
        have tM : t ≠ m := fun e => by have := L3.ht; rw [e, L3.hm] at this; cases this
        walk_at "rd"
        exact ⟨rfl, xs', ys', rs', ms', ⟨P4, k4 _ _ tp tS tM L3.ht, hs4, hm4, sp, mp, ts4, tm4⟩, hg4⟩
      · walk_at "rd"
        exact ⟨rfl, xs, ys, rs, ms, L3, hg2⟩
    clear L2' hg2
    rintro _ H2 ⟨rfl, xs, ys, rs, ms, L2', hg⟩
    have gsl := hg.sl
    have gml := hg.ml
    refine R.cut (fun (σ' : L2.St) (H' : Hp) => σ' = [some (.ref a), some (.ref p), some (.ref t), some (.ref s), some (.ref m), none, none, none, none, none, none, none, none, none, none] ∧ LS H' p l t s m xs ys rs ms) ?_ ?_
    · walk_at "rd"
      refine R.gtup (SqT.of L2'.ht) rfl ?_
      refine R.gcons ?_
      refine R.gname ?_
      refine R.gcons ?_
      refine R.gname ?_
      refine R.gnil ?_
      exact ⟨rfl, L2'⟩
    clear L2'
    rintro _ H2 ⟨rfl, L2'⟩
    refine R.cut (fun (σ' : L2.St) (H' : Hp) => ∃ D a0 a1, σ' = [some (.ref a), some (.ref p), some (.ref t), some (.ref s), some (.ref m), some (.ref D), none, none, none, none, none, none, none, none, none] ∧ LS H' p l t s m xs ys rs ms ∧ PD p l s m H' D a0 a1 rs ms) ?_ ?_
    · have ht2 := L2'.ht
      walk_at "rd"
      intro D hD
      obtain ⟨Dp, Dl⟩ := L2'.P.nep hD
      have Ds : D ≠ s := (ne_of_none L2'.hs hD).symm
      have Dm : D ≠ m := (ne_of_none L2'.hm hD).symm
      refine lc_it (walk_tup (K := K) (a := t) (xs := [V.ref s, .ref m])) (fun i H' => LS H' p l t s m xs ys rs ms ∧ (i = 0 → H' D = some (.lst [])) ∧ (i = 1 → ∃ a0, H' D = some (.lst [.ref a0]) ∧ (∀ c ∈ [p, l, s, m, D], a0 ≠ c) ∧ RowsL [p, D, a0] H' a0 (rs.map srV)) ∧ (i = 2 → ∃ a0 a1, PD p l s m H' D a0 a1 rs ms))
        ⟨L2'.same (same_new (Same.refl _) hD), fun _ => upd_same, fun z => absurd z (by decide), fun z => absurd z (by decide)⟩ (fun i H' _ hp => SqT.of hp.1.ht) ?_ ?_
      · rintro i u H3 H3' hi ⟨L3, z0, z1, _⟩ ⟨rfl, hu⟩
        refine R.gname ⟨rfl, ?_⟩
        walk_at "r1"
        have fresh : ∀ A zs, H3' A = none → H3' D = some (.lst zs) → ∀ c ∈ [p, l, s, m, D], A ≠ c := fun A zs hA hDz c hc => by
          obtain ⟨q1, q2⟩ := L3.P.nep hA
          simp only [List.mem_cons, List.not_mem_nil, or_false] at hc
          rcases hc with rfl | rfl | rfl | rfl | rfl
          · exact q1
          · exact q2
          · exact (ne_of_none L3.hs hA).symm
          · exact (ne_of_none L3.hm hA).symm
          · exact (ne_of_none hDz hA).symm
        match i, hi, hu with
        | 0, _, hu =>
          cases hu
          have hD3 := z0 rfl
          refine r_rowsOf (K := K) L3.hs L3.sp L3.ts (by rw [List.length_map]; omega) L3.P Dp hD3 (fun A H4 e4 P4 hA hR => ?_)
          have L4 := L3.take e4 P4
          have hD4 := e4 _ _ Dp hD3
          have fA := fresh A _ hA hD3
          refine ⟨_, hD4, by decide, L4.put hD4 Dp Dl Ds Dm, fun z => absurd z (by decide), fun _ => ⟨A, upd_same, fA, ?_⟩, fun z => absurd z (by decide)⟩
          exact hR.keep (fun b o hb e => by rw [upd_ne (hb D (by simp))]; exact e) (upd_ne (fA D (by simp)))
        | 1, _, hu =>
          cases hu
          obtain ⟨a0, hD3, n0, r0⟩ := z1 rfl
          obtain ⟨zs0, hz0⟩ : ∃ zs, H3' a0 = some (.lst zs) := ⟨_, r0.choose_spec.1⟩
          refine r_rowsOf (K := K) L3.hm L3.mp L3.tm (by rw [List.length_map]; omega) L3.P Dp hD3 (fun A H4 e4 P4 hA hR => ?_)
          have L4 := L3.take e4 P4
          have hD4 := e4 _ _ Dp hD3
          have fA := fresh A _ hA hD3
          have r4 := r0.take e4 (n0 p (by simp))
          refine ⟨_, hD4, by show 1 < sizeLine; decide, L4.put hD4 Dp Dl Ds Dm, fun z => absurd z (by decide), fun z => absurd z (by decide), fun _ => ⟨a0, A, upd_same, Dp, n0, fun c hc => ?_, ?_, ?_⟩⟩
          · by_cases h : c = a0
            · rw [h]; exact (ne_of_none hz0 hA).symm
            · refine fA c ?_
              simp only [List.mem_cons, List.not_mem_nil, or_false] at hc ⊢
              rcases hc with h' | h' | h' | h' | h' | h'
              · exact .inl h'
              · exact .inr (.inl h')
              · exact .inr (.inr (.inl h'))
              · exact .inr (.inr (.inr (.inl h')))
              · exact .inr (.inr (.inr (.inr h')))
              · exact absurd h' h
          · exact r4.keep (fun b o hb e => by rw [upd_ne (hb D (by simp))]; exact e) (upd_ne (n0 D (by simp)))
          · exact hR.keep (fun b o hb e => by rw [upd_ne (hb D (by simp))]; exact e) (upd_ne (fA D (by simp)))
        | n + 2, hi, hu => exact absurd hi (by show ¬ (n + 2 < 2); omega)
      · rintro H3 ⟨L3, _, _, z2⟩
        obtain ⟨a0, a1, hPD⟩ := z2 rfl
        walk_at "rd"
        exact ⟨D, a0, a1, rfl, L3, hPD⟩
    clear L2'
    rintro _ H2 ⟨D, a0, a1, rfl, L2', D2⟩
    refine R.cut (fun (σ' : L2.St) (H' : Hp) => ∃ x, σ' = [some (.ref a), some (.ref p), some (.ref t), some (.ref s), some (.ref m), some (.ref D), some (.ref x), none, none, none, none, none, none, none, none] ∧ LS H' p l t s m xs ys rs ms ∧ PD p l s m H' D a0 a1 rs ms ∧ SysAt S H' x rs ms) ?_ ?_
    · have hD2 := D2.hD
      walk_at "rd"
      unfold tMake
      walk_at "rd"
      obtain ⟨zs1, hz1, lz1, row1⟩ := D2.r1
      refine R.tupL hz1 fun T hT => ?_
      have s3 : Same H2 (upd H2 T (.tup zs1)) := same_new (Same.refl _) hT
      have h3 : upd H2 T (.tup zs1) T = some (.tup zs1) := upd_same
      obtain ⟨Tp, _⟩ := L2'.P.nep hT
      generalize upd H2 T (.tup zs1) = H3 at s3 h3
      walk_at "rd"
      refine ⟨by decide, fun u4 u4n => ?_⟩; have s4 : Same H3 (upd H3 u4 (.tup [V.ref a1, V.ref T])) := same_new (Same.refl _) u4n; have h4 : upd H3 u4 (.tup [V.ref a1, V.ref T]) u4 = some (.tup [V.ref a1, V.ref T]) := upd_same; generalize upd H3 u4 (.tup [V.ref a1, V.ref T]) = H4 at s4 h4
      obtain ⟨u4p, _⟩ := (L2'.P.same s3).nep u4n
      have s34 := s3.trans s4
      walk_at "rd"
      refine r_take' (L2'.P.same s34) (by decide) (by decide) (fun H5 d e5 P5 d0 d1 => ?_)
      have L5 := (L2'.same s34).take e5 P5
      have D5 := (D2.same s34).take e5
      obtain ⟨v, hv, ev⟩ := atI_in (xs := [V.ref a1, .ref T]) d0 d1
      refine R.ixT (SqT.of (e5 _ _ u4p h4)) ev ?_
      obtain ⟨c, rfl, hc⟩ : ∃ c, v = .ref c ∧ RowsIn H5 c (ms.map mrV) := by
        simp only [List.mem_cons, List.not_mem_nil, or_false] at hv
        rcases hv with rfl | rfl
        · exact ⟨a1, rfl, D5.r1.rows⟩
        · obtain ⟨zs', hz', lz', row'⟩ := D5.r1
          have hz5 := e5 _ _ (D2.n1 p (by simp)) (s34 _ _ hz1)
          rw [hz'] at hz5
          cases hz5
          refine ⟨T, rfl, zs1, .inr (e5 _ _ Tp (s4 _ _ h3)), lz1, fun i d e => ?_⟩
          obtain ⟨b, b1, _, b3⟩ := row' i d e
          exact ⟨b, b1, b3⟩
      walk_at "rd"
      intro x dx hx hdx ndx
      have s0 : Same H5 (upd (upd H5 dx (.own x)) x (.ins S dx [])) := same_put (same_put (Same.refl H5) hdx) hx
      refine ⟨x, dx, a0, c, rs.map srV, ms.map mrV, rfl, upd_same, D5.r0.rows.same s0, hc.same s0, .inr ⟨rs, ms, rfl, rfl, hg, fun H6 s6 hS6 => ⟨rfl, ?_⟩⟩⟩
      have s56 : Same H5 H6 := fun b o hb => s6 b o (ne_of_none hb hx) (s0 _ _ hb)
      walk_at "rd"
      exact ⟨x, rfl, L5.same s56, D5.same s56, hS6⟩
    clear L2' D2
    rintro _ H2 ⟨x, rfl, L2', D2, hX2⟩
    obtain ⟨zs0, hz0, lz0, row0⟩ := D2.r0
    obtain ⟨zs1, hz1, lz1, row1⟩ := D2.r1
    have lr0 : zs0.length ≤ 24 := by rw [lz0, List.length_map]; exact gsl
    have lr1 : zs1.length ≤ 6 := by rw [lz1, List.length_map]; exact gml
    have items0 : ∀ (i : Nat) v, zs0[i]? = some v → ∃ b z f r, v = V.ref b ∧ SeqA H2 b (.str z :: f :: r) := fun i v e => by
      have hi : i < rs.length := by have := (List.getElem?_eq_some_iff.mp e).1; rw [lz0, List.length_map] at this; exact this
      obtain ⟨b, b1, _, b3⟩ := row0 i (srV rs[i]) (by rw [List.getElem?_map, List.getElem?_eq_getElem hi]; rfl)
      rw [b1] at e
      cases e
      exact ⟨b, _, _, _, rfl, b3⟩
    have items1 : ∀ (i : Nat) v, zs1[i]? = some v → ∃ b z f r, v = V.ref b ∧ SeqA H2 b (.str z :: f :: r) := fun i v e => by
      have hi : i < ms.length := by have := (List.getElem?_eq_some_iff.mp e).1; rw [lz1, List.length_map] at this; exact this
      obtain ⟨b, b1, _, b3⟩ := row1 i (mrV ms[i]) (by rw [List.getElem?_map, List.getElem?_eq_getElem hi]; rfl)
      rw [b1] at e
      cases e
      exact ⟨b, _, _, _, rfl, b3⟩
    have noStr : ∀ (us : List V), (∀ (i : Nat) v, us[i]? = some v → ∃ b z f r, v = V.ref b ∧ SeqA H2 b (.str z :: f :: r)) → ∀ z d, (HO.lst us) ≠ .lst (.str z :: d) := fun us h z d e => by
      cases us with
      | nil => cases e
      | cons u us =>
        obtain ⟨b, _, _, _, hb, _⟩ := h 0 u rfl
        subst hb
        cases e
    refine R.cut (fun (σ' : L2.St) (H' : Hp) => ∃ v, σ' = [some (.ref a), some (.ref p), some (.ref t), some (.ref s), some (.ref m), some (.ref D), some (.ref x), v, none, none, none, none, none, none, none] ∧ LS H' p l t s m xs ys rs ms ∧ H' D = some (.lst [.ref a0, .ref a1]) ∧ H' a0 = some (.lst zs0) ∧ H' a1 = some (.lst zs1) ∧ SysAt S H' x rs ms) ?_ ?_
    · have hD2 := D2.hD
      walk_at "rd"
      refine catLN hz0 hz1 (by omega) fun c H3 s3 _ h3 => ?_
      walk_at "rd"
      have items : ∀ (i : Nat) v, (zs0 ++ zs1)[i]? = some v → ∃ b z f r, v = V.ref b ∧ SeqA H2 b (.str z :: f :: r) := fun i v e => by
        by_cases hi : i < zs0.length
        · rw [List.getElem?_append_left hi] at e; exact items0 i v e
        · rw [List.getElem?_append_right (by omega)] at e; exact items1 _ v e
      refine for_it (walk_list (K := K) (a := c) (xs := zs0 ++ zs1)) (fun i σ' H' => ∃ v, σ' = [some (.ref a), some (.ref p), some (.ref t), some (.ref s), some (.ref m), some (.ref D), some (.ref x), v, none, none, none, none, none, none, none] ∧ Muts H3 H')
        ⟨none, rfl, Muts.refl _⟩ (fun i σ' H' _ hp => by obtain ⟨_, _, M⟩ := hp; exact SqL.of (M.k _ _ h3 (noStr _ items))) ?_ ?_
      · rintro i u σ' H5 H5' hi ⟨v, rfl, M5⟩ ⟨rfl, hu⟩
        obtain ⟨b, z, f, r, rfl, hb⟩ := items i u hu
        rcases hb with hb | hb
        · obtain ⟨d', ld, hb'⟩ := M5.l _ _ _ (s3 _ _ hb)
          cases d' with
          | nil => cases ld
          | cons f' r' =>
            walk_at "rd"
            refine R.setL hb' (n := 1) ?_ ?_
            · unfold ixN
              rw [if_pos (by decide), if_pos (by simp only [List.length_cons]; omega)]
              rfl
            · walk_at "rd"
              exact ⟨_, rfl, M5.set hb' (by simp)⟩
        · have hb' := M5.keep _ _ (s3 _ _ hb)
          walk_at "rd"
          exact ⟨_, rfl, M5⟩
      · rintro σ' H4 ⟨v, rfl, M4⟩
        walk_at "rd"
        exact ⟨v, rfl, (L2'.same s3).muts M4, M4.k _ _ (s3 _ _ D2.hD) (fun _ _ z => nomatch z), M4.k _ _ (s3 _ _ hz0) (noStr _ items0), M4.k _ _ (s3 _ _ hz1) (noStr _ items1), (hX2.same s3).muts M4⟩
    rintro _ H3 ⟨v, rfl, L3, hD3, h03, h13, hX3⟩
    refine R.cut (fun (σ' : L2.St) (H' : Hp) => σ' = [some (.ref a), some (.ref p), some (.ref t), some (.ref s), some (.ref m), some (.ref D), some (.ref x), v, none, none, none, none, none, none, none] ∧ LS H' p l t s m xs ys rs ms ∧ H' D = some (.lst [.ref a0, .ref a1]) ∧ H' a1 = some (.lst zs1) ∧ SysAt S H' x rs ms) ?_ ?_
    · walk_at "rd"
      refine ⟨by decide, fun u1 u1n => ?_⟩; have s4 : Same H3 (upd H3 u1 (.tup [V.str (Str.ofString "zzzz"), V.int 1])) := same_new (Same.refl _) u1n; have h4 : upd H3 u1 (.tup [V.str (Str.ofString "zzzz"), V.int 1]) u1 = some (.tup [V.str (Str.ofString "zzzz"), V.int 1]) := upd_same; generalize upd H3 u1 (.tup [V.str (Str.ofString "zzzz"), V.int 1]) = H4 at s4 h4
      refine R.nil ?_
      refine R.append (s4 _ _ h03) (small1000 (by omega)) ?_
      exact ⟨rfl, (L3.same s4).put (s4 _ _ h03) (D2.n0 p (by simp)) (D2.n0 l (by simp)) (D2.n0 s (by simp)) (D2.n0 m (by simp)), by rw [upd_ne (D2.n0 D (by simp)).symm]; exact s4 _ _ hD3, by rw [upd_ne (D2.n1 a0 (by simp))]; exact s4 _ _ h13, (hX3.same s4).put (s4 _ _ h03)⟩
    clear L3 hD3 h13 hX3 h03
    rintro _ H3 ⟨rfl, L3, hD3, h13, hX3⟩
    refine R.cut (fun (σ' : L2.St) (H' : Hp) => σ' = [some (.ref a), some (.ref p), some (.ref t), some (.ref s), some (.ref m), some (.ref D), some (.ref x), v, none, none, none, none, none, none, none] ∧ LS H' p l t s m xs ys rs ms ∧ SysAt S H' x rs ms) ?_ ?_
    · walk_at "rd"
      refine ⟨by decide, fun u1 u1n => ?_⟩; have s4 : Same H3 (upd H3 u1 (.tup [V.str (Str.ofString "zzzy"), V.int 2, V.int 1, V.bl true, V.int 0])) := same_new (Same.refl _) u1n; have h4 : upd H3 u1 (.tup [V.str (Str.ofString "zzzy"), V.int 2, V.int 1, V.bl true, V.int 0]) u1 = some (.tup [V.str (Str.ofString "zzzy"), V.int 2, V.int 1, V.bl true, V.int 0]) := upd_same; generalize upd H3 u1 (.tup [V.str (Str.ofString "zzzy"), V.int 2, V.int 1, V.bl true, V.int 0]) = H4 at s4 h4
      refine R.nil ?_
      refine R.append (s4 _ _ h13) (small1000 (by omega)) ?_
      exact ⟨rfl, (L3.same s4).put (s4 _ _ h13) (D2.n1 p (by simp)) (D2.n1 l (by simp)) (D2.n1 s (by simp)) (D2.n1 m (by simp)), (hX3.same s4).put (s4 _ _ h13)⟩
    clear L3 hD3 h13 hX3 L2' hX2 row0 row1 items0 items1 noStr hz0 hz1 lz0 lz1 lr0 lr1 D2
    rintro _ H3 ⟨rfl, L3, hX3⟩
    refine R.cut (fun (σ' : L2.St) (H' : Hp) => σ' = [some (.ref a), some (.ref p), some (.ref t), some (.ref s), some (.ref m), some (.ref D), some (.ref x), v, none, none, none, none, none, none, none] ∧ LS H' p l t s m xs ys rs ms ∧ SysAt S H' x rs ms) ?_ ?_
    · -- the two parts
      obtain ⟨dx, sA, mA, vA, rA, us, ws, hx, hsA, tsA, hmA, tmA, _, _⟩ := id hX3
      walk_at "rd"
      refine R.fldE hx TS.cl TS.nS rfl ?_
      walk_at "rd"
      refine R.fldE hx TS.cl TS.nM rfl ?_
      walk_at "rd"
      refine ⟨by decide, fun u4 u4n => ?_⟩; have s4 : Same H3 (upd H3 u4 (.tup [V.ref sA, V.ref mA])) := same_new (Same.refl _) u4n; have h4 : upd H3 u4 (.tup [V.ref sA, V.ref mA]) u4 = some (.tup [V.ref sA, V.ref mA]) := upd_same; generalize upd H3 u4 (.tup [V.ref sA, V.ref mA]) = H4 at s4 h4
      walk_at "rd"
      refine R.tupL (s4 _ _ L3.hs) fun u5 hu5 => ?_
      have s5 : Same H4 (upd H4 u5 (.tup xs)) := same_new (Same.refl _) hu5
      have h5 : upd H4 u5 (.tup xs) u5 = some (.tup xs) := upd_same
      generalize upd H4 u5 (.tup xs) = H5 at s5 h5
      walk_at "rd"
      refine R.tupL ((s4.trans s5) _ _ L3.hm) fun u6 hu6 => ?_
      have s6 : Same H5 (upd H5 u6 (.tup ys)) := same_new (Same.refl _) hu6
      have h6 : upd H5 u6 (.tup ys) u6 = some (.tup ys) := upd_same
      generalize upd H5 u6 (.tup ys) = H6 at s6 h6
      walk_at "rd"
      refine ⟨by decide, fun u7 u7n => ?_⟩; have s7 : Same H6 (upd H6 u7 (.tup [V.ref u5, V.ref u6])) := same_new (Same.refl _) u7n; have h7 : upd H6 u7 (.tup [V.ref u5, V.ref u6]) u7 = some (.tup [V.ref u5, V.ref u6]) := upd_same; generalize upd H6 u7 (.tup [V.ref u5, V.ref u6]) = H7 at s7 h7
      refine R.nil ?_
      have s37 := ((s4.trans s5).trans s6).trans s7
      have L7 := L3.same s37
      refine r_same4 (eqd_two (((s5.trans s6).trans s7) _ _ h4) h7 (eqd_rows (s37 _ _ hsA) ((s6.trans s7) _ _ h5) (tsA.keep fun _ _ h => s37 _ _ h) L7.ts (scal_s rs) (by rw [List.length_map]; omega)) (eqd_rows (s37 _ _ hmA) (s7 _ _ h6) (tmA.keep fun _ _ h => s37 _ _ h) L7.tm (scal_m ms) (by rw [List.length_map]; omega))) fun H8 s8 => ?_
      walk_at "rd"
      exact ⟨rfl, L7.same s8, (hX3.same s37).same s8⟩
    clear L3 hX3
    rintro _ H3 ⟨rfl, L3, hX3⟩
    have lx : xs.length = rs.length := by have := L3.ts.len; rwa [List.length_map] at this
    have ly : ys.length = ms.length := by have := L3.tm.len; rwa [List.length_map] at this
    refine R.cut (fun (σ' : L2.St) (H' : Hp) => ∃ W, σ' = [some (.ref a), some (.ref p), some (.ref t), some (.ref s), some (.ref m), some (.ref D), some (.ref x), v, some (.ref W), none, none, none, none, none, none] ∧ LS H' p l t s m xs ys rs ms ∧ SysAt S H' x rs ms ∧ H' W = some (.tup ((rs.map (·.w) ++ ms.map (·.w)).map V.str))) ?_ ?_
    · -- the words, told by the law
      walk_at "rd"
      refine catLN L3.hs L3.hm (by omega) fun c H4 s4 _ h4 => ?_
      walk_at "rd"
      intro E5 hE5
      have items : ∀ i, i < rs.length + ms.length → ∃ b z d, (xs ++ ys)[i]? = some (.ref b) ∧ H3 b = some (.tup (.str z :: d)) ∧ (rs.map (·.w) ++ ms.map (·.w))[i]? = some z := by
        intro i hi
        by_cases h : i < rs.length
        · have hri : rs[i]? = some rs[i] := List.getElem?_eq_getElem h
          obtain ⟨b, hb, hbt⟩ := L3.ts.get i (srV rs[i]) (by rw [List.getElem?_map, hri]; rfl)
          exact ⟨b, rs[i].w, _, by rw [List.getElem?_append_left (by omega)]; exact hb, hbt, by rw [List.getElem?_append_left (by rw [List.length_map]; exact h), List.getElem?_map, hri]; rfl⟩
        · have hi2 : i - rs.length < ms.length := by omega
          have hri : ms[i - rs.length]? = some ms[i - rs.length] := List.getElem?_eq_getElem hi2
          obtain ⟨b, hb, hbt⟩ := L3.tm.get (i - rs.length) (mrV ms[i - rs.length]) (by rw [List.getElem?_map, hri]; rfl)
          exact ⟨b, ms[i - rs.length].w, _, by rw [List.getElem?_append_right (by omega), lx]; exact hb, hbt, by rw [List.getElem?_append_right (by rw [List.length_map]; omega), List.length_map, List.getElem?_map, hri]; rfl⟩
      have hall : (xs ++ ys).length = rs.length + ms.length := by rw [List.length_append]; omega
      refine lc_it (walk_list (K := K) (a := c) (xs := xs ++ ys)) (fun i H' => Same H4 H' ∧ H' E5 = some (.lst (((rs.map (·.w) ++ ms.map (·.w)).take i).map V.str))) ⟨same_new (Same.refl _) hE5, upd_same⟩ (fun i H' _ hp' => SqL.of (hp'.1 _ _ h4)) ?_ ?_
      · rintro i u H5 H5' hi ⟨s5, hE⟩ ⟨rfl, hu⟩
        obtain ⟨b, z, d, hb, hbt, hz⟩ := items i (by omega)
        rw [hb] at hu
        cases hu
        have hb2 := s5 _ _ (s4 _ _ hbt)
        refine R.gname ⟨rfl, ?_⟩
        walk_at "rd"
        refine R.ixT (SqT.of hb2) (atI_nat (j := 0) rfl) ?_
        refine ⟨_, hE, small1000 (by rw [List.length_map, List.length_take, List.length_append, List.length_map, List.length_map]; omega), same_put s5 hE5, ?_⟩
        rw [upd_same, List.take_add_one, hz, List.map_append]
        rfl
      · rintro H5 ⟨s5, hE⟩
        rw [hall, List.take_of_length_le (by rw [List.length_append, List.length_map, List.length_map]; exact Nat.le_refl _)] at hE
        walk_at "rd"
        refine R.tupL hE fun W hW => ?_
        have s6 : Same H3 (upd H5 W (.tup ((rs.map (·.w) ++ ms.map (·.w)).map V.str))) := same_new (s4.trans s5) hW
        have h6 : upd H5 W (.tup ((rs.map (·.w) ++ ms.map (·.w)).map V.str)) W = some (.tup ((rs.map (·.w) ++ ms.map (·.w)).map V.str)) := upd_same
        generalize upd H5 W (.tup ((rs.map (·.w) ++ ms.map (·.w)).map V.str)) = H6 at s6 h6
        walk_at "rd"
        exact ⟨W, rfl, L3.same s6, hX3.same s6, h6⟩
    clear L3 hX3
    rintro _ H3 ⟨W, rfl, L3, hX3, hW3⟩
    refine R.cut (fun (σ' : L2.St) (H' : Hp) => σ' = [some (.ref a), some (.ref p), some (.ref t), some (.ref s), some (.ref m), some (.ref D), some (.ref x), v, some (.ref W), none, none, none, none, none, none] ∧ LS H' p l t s m xs ys rs ms ∧ SysAt S H' x rs ms) ?_ ?_
    · walk_at "rd"
      refine r_meth rfl hX3 (fun _ _ _ _ => rfl) ?_
      refine R.nil ?_
      refine ⟨x, rs, ms, rfl, hX3, by omega, fun t4 H4 s4 h4 => ?_⟩
      walk_at "rd"
      refine r_same4 (eqd_flat h4 (s4 _ _ hW3) (by rw [List.length_map, List.length_append, List.length_map, List.length_map]; omega) (fun v hv => by obtain ⟨z, _, rfl⟩ := List.mem_map.mp hv; exact .str z)) fun H5 s5 => ?_
      walk_at "rd"
      exact ⟨rfl, (L3.same s4).same s5, (hX3.same s4).same s5⟩
    clear L3 hX3 hW3
    rintro _ H3 ⟨rfl, L3, hX3⟩
    have nds : (rs.map (·.w)).Nodup := (List.nodup_append.mp hg.nd).1
    have ndm : (ms.map (·.w)).Nodup := (List.nodup_append.mp hg.nd).2.1
    refine R.cut (fun (σ' : L2.St) (H' : Hp) => ∃ v, σ' = [some (.ref a), some (.ref p), some (.ref t), some (.ref s), some (.ref m), some (.ref D), some (.ref x), v, some (.ref W), none, none, none, none, none, none] ∧ LS H' p l t s m xs ys rs ms ∧ SysAt S H' x rs ms) ?_ ?_
    · -- each simple word
      have hs3 := L3.hs
      walk_at "rd"
      refine for_it (walk_list (K := K) (a := s) (xs := xs)) (fun i σ' H' => ∃ v, σ' = [some (.ref a), some (.ref p), some (.ref t), some (.ref s), some (.ref m), some (.ref D), some (.ref x), v, some (.ref W), none, none, none, none, none, none] ∧ LS H' p l t s m xs ys rs ms ∧ SysAt S H' x rs ms)
        ⟨v, rfl, L3, hX3⟩ (fun i σ' H' _ hp => by obtain ⟨_, _, hL, _⟩ := hp; exact SqL.of hL.hs) ?_ ?_
      · rintro i u σ' H5 H5' hi ⟨v, rfl, L5, hX5⟩ ⟨rfl, hu⟩
        have hri : rs[i]? = some rs[i] := List.getElem?_eq_getElem (by omega)
        obtain ⟨b, hb, hbt⟩ := L5.ts.get i (srV rs[i]) (by rw [List.getElem?_map, hri]; rfl)
        have hrm : rs[i] ∈ rs := List.mem_of_getElem? hri
        generalize rs[i] = r at hri hbt hrm
        rw [hb] at hu
        cases hu
        have e0 : atI (srV r) 0 = some (.str r.w) := atI_nat (j := 0) rfl
        have e1 : atI (srV r) 1 = some (.int r.v) := atI_nat (j := 1) rfl
        walk_at "rd"
        refine r_meth rfl hX5 (fun _ _ _ _ => rfl) ?_
        walk_at "rd"
        refine ⟨x, r.w, rs, ms, rfl, hX5, ?_⟩
        rw [svOf_in nds hrm]
        walk_at "rd"
        refine r_meth rfl hX5 (fun _ _ _ _ => rfl) ?_
        walk_at "rd"
        refine ⟨x, r.w, rs, ms, rfl, hX5, by omega, .inr ⟨fun hz => (List.nodup_append.mp hg.nd).2.2 _ (List.mem_map.mpr ⟨r, hrm, rfl⟩) _ hz rfl, ?_⟩⟩
        walk_at "rd"
        refine ⟨by decide, fun u4 u4n => ?_⟩; have s6 : Same H5' (upd H5' u4 (.tup [V.int r.v, V.non])) := same_new (Same.refl _) u4n; have h6 : upd H5' u4 (.tup [V.int r.v, V.non]) u4 = some (.tup [V.int r.v, V.non]) := upd_same; generalize upd H5' u4 (.tup [V.int r.v, V.non]) = H6 at s6 h6
        have hbt6 := s6 _ _ hbt
        walk_at "rd"
        refine ⟨by decide, fun u5 u5n => ?_⟩; have s7 : Same H6 (upd H6 u5 (.tup [V.int r.v, V.non])) := same_new (Same.refl _) u5n; have h7 : upd H6 u5 (.tup [V.int r.v, V.non]) u5 = some (.tup [V.int r.v, V.non]) := upd_same; generalize upd H6 u5 (.tup [V.int r.v, V.non]) = H7 at s7 h7
        refine R.nil ?_
        refine r_same4 (eqd_flat (s7 _ _ h6) h7 (by show 2 ≤ 1000; decide) (fun v hv => by
          simp only [List.mem_cons, List.not_mem_nil, or_false] at hv
          rcases hv with rfl | rfl
          · exact .int _
          · exact .non)) fun H8 s8 => ?_
        walk_at "rd"
        have s58 := (s6.trans s7).trans s8
        exact ⟨_, rfl, L5.same s58, hX5.same s58⟩
      · rintro σ' H4 ⟨v, rfl, L4, hX4⟩
        walk_at "rd"
        exact ⟨v, rfl, L4, hX4⟩
    clear L3 hX3
    rintro _ H3 ⟨v, rfl, L3, hX3⟩
    refine R.cut (fun (σ' : L2.St) (H' : Hp) => σ' = [some (.ref a), some (.ref p), some (.ref t), some (.ref s), some (.ref m), some (.ref D), some (.ref x), v, some (.ref W), some .non, none, none, none, none, none] ∧ LS H' p l t s m xs ys rs ms ∧ SysAt S H' x rs ms) ?_ ?_
    · walk_at "rd"
      exact ⟨rfl, L3, hX3⟩
    clear L3 hX3
    rintro _ H3 ⟨rfl, L3, hX3⟩
    refine R.cut (fun (σ' : L2.St) (H' : Hp) => σ' = [some (.ref a), some (.ref p), some (.ref t), some (.ref s), some (.ref m), some (.ref D), some (.ref x), v, some (.ref W), some .non, some (.int (bms 0 rs)), none, none, none, none] ∧ LS H' p l t s m xs ys rs ms ∧ SysAt S H' x rs ms) ?_ ?_
    · have hs3 := L3.hs
      walk_at "rd"
      refine ⟨by decide, fun u4 u4n => ?_⟩; have s4 : Same H3 (upd H3 u4 (.lst [V.int 0])) := same_new (Same.refl _) u4n; have h4 : upd H3 u4 (.lst [V.int 0]) u4 = some (.lst [V.int 0]) := upd_same; generalize upd H3 u4 (.lst [V.int 0]) = H4 at s4 h4
      have hs4 := s4 _ _ hs3
      walk_at "rd"
      intro E5 hE5
      refine lc_it (walk_list (K := K) (a := s) (xs := xs)) (fun i H' => Same H4 H' ∧ H' E5 = some (.lst (((rs.map (·.v)).take i).map V.int))) ⟨same_new (Same.refl _) hE5, upd_same⟩ (fun i H' _ hp' => SqL.of (hp'.1 _ _ hs4)) ?_ ?_
      · rintro i u H5 H5' hi ⟨s5, hE⟩ ⟨rfl, hu⟩
        have hri : rs[i]? = some rs[i] := List.getElem?_eq_getElem (by omega)
        obtain ⟨b, hb, hbt⟩ := L3.ts.get i (srV rs[i]) (by rw [List.getElem?_map, hri]; rfl)
        generalize rs[i] = r at hri hbt
        rw [hb] at hu
        cases hu
        have hb5 := s5 _ _ (s4 _ _ hbt)
        have e1 : atI (srV r) 1 = some (.int r.v) := atI_nat (j := 1) rfl
        refine R.gname ⟨rfl, ?_⟩
        walk_at "rd"
        refine ⟨_, hE, small1000 (by rw [List.length_map, List.length_take, List.length_map]; omega), same_put s5 hE5, ?_⟩
        rw [upd_same, List.take_add_one, List.getElem?_map, hri, List.map_append]
        rfl
      · rintro H5 ⟨s5, hE⟩
        rw [lx, List.take_of_length_le (by rw [List.length_map]; exact Nat.le_refl _)] at hE
        walk_at "rd"
        refine catLN (s5 _ _ h4) hE (by rw [List.length_map, List.length_map]; show 1 + _ ≤ 1000; omega) fun c H6 s6 _ h6 => ?_
        walk_at "rd"
        refine ⟨c, 0 :: rs.map (fun r : SR => r.v), rfl, SqL.of h6, by simp, fun mm hmm hub => ?_⟩
        obtain ⟨b1, b2⟩ := bms_max rs 0
        have : mm = bms 0 rs := Int.le_antisymm (b1 _ hmm) (hub _ b2)
        subst this
        walk_at "rd"
        have s36 := (s4.trans s5).trans s6
        exact ⟨rfl, L3.same s36, hX3.same s36⟩
    clear L3 hX3
    rintro _ H3 ⟨rfl, L3, hX3⟩
    refine R.cut (fun (σ' : L2.St) (H' : Hp) => ∃ v ev c1 c2, σ' = [some (.ref a), some (.ref p), some (.ref t), some (.ref s), some (.ref m), some (.ref D), some (.ref x), v, some (.ref W), some ev, some (.int (bmm (bms 0 rs) ms)), c1, c2, none, none] ∧ LS H' p l t s m xs ys rs ms ∧ SysAt S H' x rs ms ∧
      ((ev = .non ∧ ∀ (j : Nat) (mm : MR), ms[j]? = some mm → mm.c ≠ none) ∨ ∃ (j : Nat) (mm : MR), ms[j]? = some mm ∧ mm.c = none ∧ ys[j]? = some ev)) ?_ ?_
    · -- each multiplier
      have hm3 := L3.hm
      walk_at "rd"
      refine for_it (walk_list (K := K) (a := m) (xs := ys)) (fun i σ' H' => ∃ v ev c1 c2, σ' = [some (.ref a), some (.ref p), some (.ref t), some (.ref s), some (.ref m), some (.ref D), some (.ref x), v, some (.ref W), some ev, some (.int (bmm (bms 0 rs) (ms.take i))), c1, c2, none, none] ∧ LS H' p l t s m xs ys rs ms ∧ SysAt S H' x rs ms ∧
          ((ev = .non ∧ ∀ (j : Nat) (mm : MR), j < i → ms[j]? = some mm → mm.c ≠ none) ∨ ∃ (j : Nat) (mm : MR), ms[j]? = some mm ∧ mm.c = none ∧ ys[j]? = some ev))
        ⟨v, .non, none, none, rfl, L3, hX3, .inl ⟨rfl, fun j mm hj => absurd hj (by omega)⟩⟩ (fun i σ' H' _ hp => by obtain ⟨_, _, _, _, _, hL, _⟩ := hp; exact SqL.of hL.hm) ?_ ?_
      · rintro i u σ' H5 H5' hi ⟨v, ev, c1, c2, rfl, L5, hX5, hev⟩ ⟨rfl, hu⟩
        have hri : ms[i]? = some ms[i] := List.getElem?_eq_getElem (by omega)
        obtain ⟨b, hb, hbt⟩ := L5.tm.get i (mrV ms[i]) (by rw [List.getElem?_map, hri]; rfl)
        have hrm : ms[i] ∈ ms := List.mem_of_getElem? hri
        generalize ms[i] = r at hri hbt hrm
        rw [hb] at hu
        cases hu
        have gr := hg.m r hrm
        have e0 : atI (mrV r) 0 = some (.str r.w) := atI_nat (j := 0) rfl
        have e1 : atI (mrV r) 1 = some (.int r.v) := atI_nat (j := 1) rfl
        have e2 : atI (mrV r) 2 = some (ocnt r.c) := atI_nat (j := 2) rfl
        have e3 : atI (mrV r) 3 = some (.bl r.u) := atI_nat (j := 3) rfl
        have e4 : atI (mrV r) 4 = some (.int r.r) := atI_nat (j := 4) rfl
        walk_at "rd"
        refine r_meth rfl hX5 (fun _ _ _ _ => rfl) ?_
        walk_at "rd"
        refine ⟨x, r.w, rs, ms, rfl, hX5, ?_⟩
        rw [svOf_off (fun hz => (List.nodup_append.mp hg.nd).2.2 _ hz _ (List.mem_map.mpr ⟨r, hrm, rfl⟩) rfl)]
        walk_at "rd"
        refine r_meth rfl hX5 (fun _ _ _ _ => rfl) ?_
        walk_at "rd"
        refine ⟨x, r.w, rs, ms, rfl, hX5, by omega, .inl ⟨r, hrm, rfl, ndm, fun b' hb' => ?_⟩⟩
        walk_at "rd"
        refine ⟨by decide, fun u4 u4n => ?_⟩; have s6 : Same H5' (upd H5' u4 (.tup [V.non, V.ref b'])) := same_new (Same.refl _) u4n; have h6 : upd H5' u4 (.tup [V.non, V.ref b']) u4 = some (.tup [V.non, V.ref b']) := upd_same; generalize upd H5' u4 (.tup [V.non, V.ref b']) = H6 at s6 h6
        walk_at "rd"
        refine ⟨by decide, fun u5 u5n => ?_⟩; have s7 : Same H6 (upd H6 u5 (.tup [V.non, V.ref b])) := same_new (Same.refl _) u5n; have h7 : upd H6 u5 (.tup [V.non, V.ref b]) u5 = some (.tup [V.non, V.ref b]) := upd_same; generalize upd H6 u5 (.tup [V.non, V.ref b]) = H7 at s7 h7
        refine R.nil ?_
        have s57 := s6.trans s7
        refine r_same4 (eqd_two (s7 _ _ h6) h7 (eqd_scal .non) (eqd_flat (s57 _ _ hb') (s57 _ _ hbt) (scal_m1 r).1 (scal_m1 r).2)) fun H8 s8 => ?_
        have s58 := s57.trans s8
        have hbt8 := s58 _ _ hbt
        have L8 := L5.same s58
        have hX8 := hX5.same s58
        have mxs : ∀ g, (match r.c with | none => g | some c => mx g (c * r.v + r.r)) = bmm g [r] := fun g => rfl
        have tk : bmm (bms 0 rs) (ms.take (i + 1)) = (match r.c with | none => bmm (bms 0 rs) (ms.take i) | some c => mx (bmm (bms 0 rs) (ms.take i)) (c * r.v + r.r)) := by
          rw [List.take_add_one, hri]
          exact bmm_snoc _ _ _
        walk_at "rd"
        cases hc : r.c with
        | none =>
          refine R.itY rfl ?_
          rw [hc] at tk
          refine R.asg ?_
          refine R.var rfl ?_
          refine R.gname ?_
          dsimp only [List.set_cons_succ, List.set_cons_zero]
          refine r_counts (K := K) hbt8 gr (fun c1 c2 H9 s9 => ?_)
          exact ⟨_, _, c1, c2, by rw [tk], L8.same s9, hX8.same s9, .inr ⟨i, r, hri, hc, hb⟩⟩
        | some c =>
          refine R.itN (fun z => nomatch z) ?_
          rw [hc] at tk e2
          refine R.asg ?_
          refine R.cb ?_
          refine R.cons ?_
          refine R.var rfl ?_
          refine R.cons ?_
          refine R.op ?_
          refine R.op ?_
          refine R.op ?_
          refine R.var rfl ?_
          refine R.c ?_
          refine R.ixT (v := .int c) (SqT.of hbt8) e2 ?_
          refine R.op ?_
          refine R.var rfl ?_
          refine R.c ?_
          refine R.ixT (SqT.of hbt8) e1 ?_
          obtain ⟨hc1, hc2, _⟩ := gr.c c hc
          have hv1 := gr.lo
          have hv2 := gr.hi
          refine R.ic ?_ ?_
          · walk_at "cond"
          refine R.op ?_
          refine R.var rfl ?_
          refine R.c ?_
          refine R.ixT (SqT.of hbt8) e4 ?_
          refine R.i0 ?_
          refine R.nil ?_
          refine R.max2 ?_
          refine R.gname ?_
          dsimp only [List.set_cons_succ, List.set_cons_zero]
          refine r_counts (K := K) hbt8 gr (fun c1 c2 H9 s9 => ?_)
          refine ⟨_, _, c1, c2, by rw [tk]; rfl, L8.same s9, hX8.same s9, ?_⟩
          rcases hev with ⟨rfl, hno⟩ | h
          · refine .inl ⟨rfl, fun j mm hj hjm => ?_⟩
            by_cases hji : j = i
            · subst hji
              rw [hri] at hjm
              cases hjm
              rw [hc]
              exact fun z => nomatch z
            · exact hno j mm (by omega) hjm
          · exact .inr h
      · rintro σ' H4 ⟨v, ev, c1, c2, rfl, L4, hX4, hev⟩
        walk_at "rd"
        refine ⟨v, ev, c1, c2, by rw [ly, List.take_length], L4, hX4, ?_⟩
        rcases hev with ⟨h1, h2⟩ | h
        · exact .inl ⟨h1, fun j mm hj => h2 j mm (by have := (List.getElem?_eq_some_iff.mp hj).1; omega) hj⟩
        · exact .inr h
    clear L3 hX3
    rintro _ H3 ⟨v, ev, c1, c2, rfl, L3, hX3, hev⟩
    refine R.cut (fun (σ' : L2.St) (H' : Hp) => σ' = [some (.ref a), some (.ref p), some (.ref t), some (.ref s), some (.ref m), some (.ref D), some (.ref x), v, some (.ref W), some ev, some (.int (bmm (bms 0 rs) ms)), c1, c2, none, none] ∧ LS H' p l t s m xs ys rs ms ∧ SysAt S H' x rs ms) ?_ ?_
    · walk_at "rd"
      refine r_meth rfl hX3 (fun _ _ _ _ => rfl) ?_
      refine R.nil ?_
      -- the endless one: the same row in both
      have both : ∀ (u : V) (H4 : Hp), Same H3 H4 → Eqd H4 3 u ev → True := fun _ _ _ _ => trivial
      rcases hev with ⟨rfl, hno⟩ | ⟨j, mm, hj, hc, hy⟩
      · refine ⟨x, rs, ms, rfl, hX3, .inr ⟨fun mm hmm => by obtain ⟨j, hj⟩ := List.getElem?_of_mem hmm; exact hno j mm hj, ?_⟩⟩
        walk_at "rd"
        refine r_meth rfl hX3 (fun _ _ _ _ => rfl) ?_
        refine R.nil ?_
        refine ⟨x, rs, ms, rfl, hX3, fun mm hmm => ⟨(hg.m mm hmm).lo, (hg.m mm hmm).hi⟩, ?_⟩
        walk_at "rd"
        refine ⟨by decide, fun u4 u4n => ?_⟩; have s4 : Same H3 (upd H3 u4 (.tup [V.non, V.int (bmm (bms 0 rs) ms)])) := same_new (Same.refl _) u4n; have h4 : upd H3 u4 (.tup [V.non, V.int (bmm (bms 0 rs) ms)]) u4 = some (.tup [V.non, V.int (bmm (bms 0 rs) ms)]) := upd_same; generalize upd H3 u4 (.tup [V.non, V.int (bmm (bms 0 rs) ms)]) = H4 at s4 h4
        walk_at "rd"
        refine ⟨by decide, fun u5 u5n => ?_⟩; have s5 : Same H4 (upd H4 u5 (.tup [V.non, V.int (bmm (bms 0 rs) ms)])) := same_new (Same.refl _) u5n; have h5 : upd H4 u5 (.tup [V.non, V.int (bmm (bms 0 rs) ms)]) u5 = some (.tup [V.non, V.int (bmm (bms 0 rs) ms)]) := upd_same; generalize upd H4 u5 (.tup [V.non, V.int (bmm (bms 0 rs) ms)]) = H5 at s5 h5
        refine R.nil ?_
        refine r_same4 (eqd_two (s5 _ _ h4) h5 (eqd_scal .non) (eqd_scal (.int _))) fun H6 s6 => ?_
        walk_at "rd"
        have s36 := (s4.trans s5).trans s6
        exact ⟨rfl, L3.same s36, hX3.same s36⟩
      · obtain ⟨b, hb, hbt⟩ := L3.tm.get j (mrV mm) (by rw [List.getElem?_map, hj]; rfl)
        rw [hb] at hy
        cases hy
        refine ⟨x, rs, ms, rfl, hX3, .inl ⟨j, mm, hj, hc, fun j' m' hj' hm' hc' => by have := two_none hj' hm' hc' hj hc; have := hg.one; omega, fun b' hb' => ?_⟩⟩
        walk_at "rd"
        refine r_meth rfl hX3 (fun _ _ _ _ => rfl) ?_
        refine R.nil ?_
        refine ⟨x, rs, ms, rfl, hX3, fun mm hmm => ⟨(hg.m mm hmm).lo, (hg.m mm hmm).hi⟩, ?_⟩
        walk_at "rd"
        refine ⟨by decide, fun u4 u4n => ?_⟩; have s4 : Same H3 (upd H3 u4 (.tup [V.ref b', V.int (bmm (bms 0 rs) ms)])) := same_new (Same.refl _) u4n; have h4 : upd H3 u4 (.tup [V.ref b', V.int (bmm (bms 0 rs) ms)]) u4 = some (.tup [V.ref b', V.int (bmm (bms 0 rs) ms)]) := upd_same; generalize upd H3 u4 (.tup [V.ref b', V.int (bmm (bms 0 rs) ms)]) = H4 at s4 h4
        walk_at "rd"
        refine ⟨by decide, fun u5 u5n => ?_⟩; have s5 : Same H4 (upd H4 u5 (.tup [V.ref b, V.int (bmm (bms 0 rs) ms)])) := same_new (Same.refl _) u5n; have h5 : upd H4 u5 (.tup [V.ref b, V.int (bmm (bms 0 rs) ms)]) u5 = some (.tup [V.ref b, V.int (bmm (bms 0 rs) ms)]) := upd_same; generalize upd H4 u5 (.tup [V.ref b, V.int (bmm (bms 0 rs) ms)]) = H5 at s5 h5
        refine R.nil ?_
        have s35 := s4.trans s5
        refine r_same4 (eqd_two (s5 _ _ h4) h5 (eqd_flat (s35 _ _ hb') (s35 _ _ hbt) (scal_m1 mm).1 (scal_m1 mm).2) (eqd_scal (.int _))) fun H6 s6 => ?_
        walk_at "rd"
        have s36 := s35.trans s6
        exact ⟨rfl, L3.same s36, hX3.same s36⟩
    clear L3 hX3 hev
    rintro _ H3 ⟨rfl, L3, hX3⟩
    refine R.cut (fun (σ' : L2.St) (H' : Hp) => σ' = [some (.ref a), some (.ref p), some (.ref t), some (.ref s), some (.ref m), some (.ref D), some (.ref x), v, some (.ref W), some ev, some (.int (bmm (bms 0 rs) ms)), c1, c2, none, none] ∧ LS H' p l t s m xs ys rs ms) ?_ ?_
    · walk_at "rd"
      refine r_meth rfl hX3 (fun _ _ _ _ => rfl) ?_
      walk_at "rd"
      refine ⟨x, _, rs, ms, rfl, hX3, ?_⟩
      rw [svOf_off (fun hz => by obtain ⟨r, hr, e⟩ := List.mem_map.mp hz; exact no_z5 (hg.s r hr).w e)]
      walk_at "rd"
      refine r_meth rfl hX3 (fun _ _ _ _ => rfl) ?_
      walk_at "rd"
      refine ⟨x, _, rs, ms, rfl, hX3, by omega, .inr ⟨fun hz => by obtain ⟨r, hr, e⟩ := List.mem_map.mp hz; exact no_z5 (hg.m r hr).w e, ?_⟩⟩
      walk_at "rd"
      refine ⟨by decide, fun u4 u4n => ?_⟩; have s4 : Same H3 (upd H3 u4 (.tup [V.non, V.non])) := same_new (Same.refl _) u4n; have h4 : upd H3 u4 (.tup [V.non, V.non]) u4 = some (.tup [V.non, V.non]) := upd_same; generalize upd H3 u4 (.tup [V.non, V.non]) = H4 at s4 h4
      walk_at "rd"
      refine ⟨by decide, fun u5 u5n => ?_⟩; have s5 : Same H4 (upd H4 u5 (.tup [V.non, V.non])) := same_new (Same.refl _) u5n; have h5 : upd H4 u5 (.tup [V.non, V.non]) u5 = some (.tup [V.non, V.non]) := upd_same; generalize upd H4 u5 (.tup [V.non, V.non]) = H5 at s5 h5
      refine R.nil ?_
      refine r_same4 (eqd_two (s5 _ _ h4) h5 (eqd_scal .non) (eqd_scal .non)) fun H6 s6 => ?_
      walk_at "rd"
      exact ⟨rfl, L3.same ((s4.trans s5).trans s6)⟩
    clear L3 hX3
    rintro _ H3 ⟨rfl, L3⟩
    refine R.cut (fun (σ' : L2.St) (H' : Hp) => ∃ tx, σ' = [some (.ref a), some (.ref p), some (.ref t), some (.ref s), some (.ref m), some (.ref D), some (.ref x), v, some (.ref W), some ev, some (.int (bmm (bms 0 rs) ms)), c1, c2, tx, none] ∧ LS H' p l t s m xs ys rs ms) ?_ ?_
    · exact r_texts (K := K) (fun tx H4 s4 => ⟨tx, rfl, L3.same s4⟩)
    clear L3
    rintro _ H3 ⟨tx, rfl, L3⟩
    walk_at "rd"
    refine ⟨p, l, s, m, xs, ys, rs, ms, rfl, L3.P, L3.hs, L3.hm, L3.sp, L3.mp, L3.ts, L3.tm, hg, fun H' _ => k H'⟩
end
end KN
end
section
set_option Elab.async false
set_option linter.all false
set_option maxRecDepth 100000
set_option maxHeartbeats 4000000
set_option pp.maxSteps 1500
set_option pp.deepTerms false
local macro_rules | `(tactic| walk_at "ne") => `(tactic| first
  | assumption | (apply Ne.symm; assumption)
  | exact R.ne_new (by assumption) | exact (R.ne_new (by assumption)).symm
  | exact L2.ne_of_none (by assumption) (by assumption) | exact (L2.ne_of_none (by assumption) (by assumption)).symm
  | exact L2.ne_of_none (by assumption) (R.free_new (by assumption)) | exact (L2.ne_of_none (by assumption) (R.free_new (by assumption))).symm)
local macro_rules | `(tactic| walk_at "at") => `(tactic| first
  | assumption | exact L2.upd_same
  | (refine R.sb (H := ?H) (p := ?p) ?e ?n ?h; (case e => assumption); (case n => walk_at "ne"); (case h => walk_at "at"))
  | (refine R.sm (H := ?H) ?e ?h; (case e => assumption); (case h => walk_at "at"))
  | (refine Eq.trans (L2.upd_ne ?_) ?_ <;> first | walk_at "ne" | walk_at "at"))
local macro_rules | `(tactic| walk_at "sqt") => `(tactic| first | assumption | (refine L2.SqT.of ?_; walk_at "at"))
local macro_rules | `(tactic| walk_at "ty") => `(tactic| first | exact R.tyN | exact R.tyB | exact R.tyI | exact R.tyS | (refine R.tyT (xs := ?xs) ?h; case h => walk_at "at") | (refine R.tyL (xs := ?xs) ?h; case h => walk_at "at"))
local macro_rules | `(tactic| walk_at "kit") => `(tactic| first | exact R.kit_NoneType_tuple | exact R.kit_NoneType_list | exact R.kit_NoneType_bool | exact R.kit_NoneType_str | exact R.kit_NoneType_int | exact R.kit_bool_tuple | exact R.kit_bool_list | exact R.kit_bool_bool | exact R.kit_bool_str | exact R.kit_bool_int | exact R.kit_int_tuple | exact R.kit_int_list | exact R.kit_int_bool | exact R.kit_int_str | exact R.kit_int_int | exact R.kit_str_tuple | exact R.kit_str_list | exact R.kit_str_bool | exact R.kit_str_str | exact R.kit_str_int | exact R.kit_tuple_tuple | exact R.kit_tuple_list | exact R.kit_tuple_bool | exact R.kit_tuple_str | exact R.kit_tuple_int | exact R.kit_list_tuple | exact R.kit_list_list | exact R.kit_list_bool | exact R.kit_list_str | exact R.kit_list_int)
local macro_rules | `(tactic| walk_at "sz") => `(tactic| first | assumption | (refine Nat.le_trans ?_ (show 1000 ≤ PySem.sizeLine by decide); omega) | decide)
local macro_rules | `(tactic| walk_at "szl") => `(tactic| first | assumption | exact Nat.le_of_lt (L2.small1000 (by omega)) | decide | decide +kernel)
local macro_rules | `(tactic| walk_at "sqa") => `(tactic| first | assumption | exact R.SeqA.same (by assumption) (by assumption) | exact R.SeqA.new (by assumption) (by assumption) | (exact Or.inl (by walk_at "at")) | (exact Or.inr (by walk_at "at")))
local macro_rules | `(tactic| walk_at "ix") => `(tactic| first | rfl | (exact L2.atI_nat (by assumption)) | assumption)
local macro_rules | `(tactic| walk_at "cond") => `(tactic| first
  | exact Or.inl (by decide) | exact Or.inr (by decide) | exact Or.inl ⟨by omega, by omega⟩ | exact Or.inr ⟨by omega, by omega⟩
  | (constructor <;> omega) | (show _ ≠ _; omega) | decide | omega)
local macro_rules | `(tactic| walk_at "r1") => `(tactic| first
  | with_reducible refine R.seq ?_ | with_reducible refine R.asg ?_ | with_reducible refine R.ifs ?_ | with_reducible refine R.ret ?_ | with_reducible refine R.retN ?_ | with_reducible refine R.drop ?_ | with_reducible refine R.next ?_
  | with_reducible refine R.op ?_ | ((with_reducible refine R.var (v := ?v) ?h ?q); case h => rfl) | with_reducible refine R.c ?_ | with_reducible refine R.tst ?_ | with_reducible refine R.tb_ ?_ | with_reducible refine R.ex ?_
  | with_reducible refine R.i0 ?_ | with_reducible refine R.eqI ?_ | with_reducible refine R.neI ?_ | ((with_reducible refine R.ic ?_ ?_); · walk_at "cond") | with_reducible refine R.u0 ?_ | with_reducible refine R.un ?_
  | ((with_reducible refine R.eq ?_ ?_); · rfl) | ((with_reducible refine R.ne ?_ ?_); · rfl)
  | with_reducible refine R.and_ ?_ | with_reducible refine R.or_ ?_ | with_reducible refine R.not_ ?_ | with_reducible refine R.ife ?_ | with_reducible refine R.chain ?_
  | with_reducible refine R.cons ?_ | with_reducible refine R.nil ?_ | with_reducible refine R.call ?_ | with_reducible refine R.cb ?_ | with_reducible refine R.bm ?_
  | with_reducible refine R.gname ?_ | with_reducible refine R.gsub ?_ | with_reducible refine R.gnil ?_ | with_reducible refine R.gcons ?_ | with_reducible refine R.yes ?_
  | with_reducible refine R.int1 ?_ | ((with_reducible refine R.lenL (xs := ?xs) ?h ?q); case h => walk_at "at")
  | ((with_reducible refine R.ixL (xs := ?xs) (v := ?v) ?h ?e ?q); (case h => walk_at "at"); (case e => walk_at "ix"))
  | ((with_reducible refine R.setL (xs := ?xs) (n := ?n) ?h ?e ?q); (case h => walk_at "at"); (case e => rfl))
  | ((with_reducible refine R.append (xs := ?xs) ?h ?e ?q); (case h => walk_at "at"); (case e => walk_at "cond"))
  | with_reducible refine R.is_ ?_ | with_reducible refine R.isnot ?_ | with_reducible refine R.andV ?_ | with_reducible refine R.orV ?_ | with_reducible refine R.notV ?_
  | ((with_reducible refine R.isi (s := ?s) (b := ?b) ?ty ?h ?q); (case ty => walk_at "ty"); (case h => walk_at "kit"))
  | ((with_reducible refine R.addS ?h ?q); (case h => walk_at "sz")) | with_reducible refine R.max2 ?_ | with_reducible refine R.min2 ?_
  | ((with_reducible refine R.lenStr ?h ?q); (case h => walk_at "szl")) | ((with_reducible refine R.ixS (n := ?n) ?h ?e ?q); (case h => walk_at "szl"); (case e => walk_at "ix"))
  | ((with_reducible refine R.tyl (xs := ?xs) ?h ?q); (case h => walk_at "at")) | with_reducible refine R.itlist ?_ | with_reducible refine R.ittup ?_ | with_reducible refine R.m1 ?_ | with_reducible refine R.m1s ?_ | with_reducible refine R.leS ?_ | with_reducible refine R.itstr ?_ | with_reducible refine R.itstrE ?_ | with_reducible refine R.lc ?_ | with_reducible refine R.for_ ?_ | ((with_reducible refine R.all_ (bs := ?bs) ?h ?q); (case h => walk_at "at"))
  | with_reducible refine R.rng1 ?_ | ((with_reducible refine R.rngE ?h ?q); (case h => (constructor <;> omega)))
  | ((with_reducible refine R.lenT (xs := ?xs) ?h ?q); (case h => walk_at "sqt")) | ((with_reducible refine R.ixT (xs := ?xs) (v := ?v) ?h ?e ?q); (case h => walk_at "sqt"); (case e => walk_at "ix"))
  | ((refine R.itlE (xs := ?xs) ?h ?q); (case h => walk_at "at")) | ((refine R.ittE (xs := ?xs) ?h ?q); (case h => walk_at "at"))
  | ((refine R.gseq (xs := ?xs) ?h ?e ?q); (case h => walk_at "sqa"); (case e => rfl)) | ((refine R.ixA (xs := ?xs) (v := ?v) ?h ?e ?q); (case h => walk_at "sqa"); (case e => walk_at "ix")) | ((refine R.lenA (xs := ?xs) ?h ?q); (case h => walk_at "sqa"))
  | ((with_reducible refine R.gtup (xs := ?xs) ?h ?e ?q); (case h => walk_at "sqt"); (case e => rfl))
  | with_reducible refine R.din_ ?_ | with_reducible refine R.dput_ ?_
  | with_reducible refine R.sfld ?_ | with_reducible refine R.fld_ ?_ | with_reducible refine R.dc ?_
  | with_reducible refine R.dget1_ ?_
  | with_reducible refine R.itseq ?_ | with_reducible refine R.itenum ?_
  | with_reducible refine R.itT ?_ | with_reducible refine R.itF ?_ | with_reducible refine R.itNT ?_ | with_reducible refine R.itNF ?_
  | (with_reducible refine R.tup ?_) | (with_reducible refine R.lst ?_))
local macro_rules | `(tactic| walk_at "rd") => `(tactic| (repeat (first | walk_at "r1" | (dsimp only [Int.reduceToNat, List.set_cons_succ, List.set_cons_zero, List.length_cons, List.length_nil, List.nil_append, List.cons_append, List.append_nil]))))
local macro_rules | `(tactic| walk_at "go") => `(tactic| (rw [R.start_eq]; dsimp only [R.startE, List.map_nil]; walk_at "rd"))
namespace KN
open PySem L2 SX R
open C8 (Cal Def fnScope fnBody fnArgs)
theorem def_of {K : PySem.W.Frag} {h : Heap} {mg : Str → Option Value} {x : Str} {st : Stmt} {f : Addr} {od an : Option Addr} {sl : Array (Option Value)} {oc kV dc pm cd ct : Value} (X : K.In h) (G : h.Ns mainGlobals mg) (a : PySem.W.nsIn K mainGlobals x = some (some (.ref f)))
    (l : K.lookup f = some ⟨oc, od, .func (PySem.W.fnOf x x (fnArgs st) (fnBody st) (fnScope st) .none kV dc pm an cd ct), sl⟩) (c : PySem.W.codeIn K cd x = true) (k : PySem.W.keepIn K (.ref f) = true) : Def K mg x st f (PySem.W.fnOf x x (fnArgs st) (fnBody st) (fnScope st) .none kV dc pm an cd ct) :=
  ⟨⟨oc, od, .none, kV, dc, pm, an, cd, ct, sl, rfl, l, c⟩, PySem.W.mg_of X G a, k⟩
theorem kit_ref {K : PySem.W.Frag} {t : Value} {E : Addr} (h2 : PySem.W.isClsIn K E = true) (h3 : PySem.W.typeIn K (.ref E) = some (.type "type")) (h4 : PySem.W.subIn K t (.ref E) = some true) : PySem.W.kitCls K t (.ref E) = some true := by
  have q : (PySem.W.clsIn K E).isSome = true := h2
  unfold PySem.W.kitCls
  dsimp only
  rw [q, h3]
  exact h4
theorem kit_typ {K : PySem.W.Frag} {t : Value} {T : String} (h2 : PySem.W.kitMeta T = true) (h4 : PySem.W.subIn K t (.type T) = some true) : PySem.W.kitCls K t (.type T) = some true := by
  unfold PySem.W.kitCls
  dsimp only
  rw [if_pos h2]
  exact h4
theorem kit_one {K : PySem.W.Frag} {t c : Value} (h : PySem.W.kitCls K t c = some true) : PySem.W.kitOne K t c = some true := by
  unfold PySem.W.kitOne
  split
  · rfl
  · exact h
theorem exm_ref {K : PySem.W.Frag} {t : Value} {E : Addr} (h1 : PySem.W.subIn K (.ref E) (.type "BaseException") = some true) (h : PySem.W.kitCls K t (.ref E) = some true) : PySem.W.exmOne K t (.ref E) = some true := by
  unfold PySem.W.exmOne
  rw [h1]
  exact h
theorem calAt_of {P : Program} {w : World} {K : PySem.W.Frag} {mg : Str → Option Value} {base : Heap} {k : Nat} {x : Str} {f : Addr} {sp : Sp} (c : Cal P w K mg base k x sp []) (hm : mg x = some (.ref f)) : C8.CalAt P w K mg base k f sp := by
  obtain ⟨f', fd, ps, ds, q1, q2, q3, q4, q5⟩ := c.ex
  have e := q2.symm.trans hm
  cases e
  cases q5
  exact ⟨fd, ps, q1, q3, q4⟩
theorem all_mk {P : Program} {w : World} {K : PySem.W.Frag} {h : Heap} {mg : Str → Option Value} {fa S C CE : Addr} (X : K.In h) (G : h.Ns mainGlobals mg) (hfa : mg "law" = some (.ref fa))
    {f0 : Addr} {od0 an0 : Option Addr} {sl0 : Array (Option Value)} {oc0 kV0 dc0 pm0 cd0 ct0 : Value}
    {f1 : Addr} {od1 an1 : Option Addr} {sl1 : Array (Option Value)} {oc1 kV1 dc1 pm1 cd1 ct1 : Value}
    {f2 : Addr} {od2 an2 : Option Addr} {sl2 : Array (Option Value)} {oc2 kV2 dc2 pm2 cd2 ct2 : Value}
    {f3 : Addr} {od3 an3 : Option Addr} {sl3 : Array (Option Value)} {oc3 kV3 dc3 pm3 cd3 ct3 : Value}
    {f4 : Addr} {od4 an4 : Option Addr} {sl4 : Array (Option Value)} {oc4 kV4 dc4 pm4 cd4 ct4 : Value}
    {f5 : Addr} {od5 an5 : Option Addr} {sl5 : Array (Option Value)} {oc5 kV5 dc5 pm5 cd5 ct5 : Value}
    {f6 : Addr} {od6 an6 : Option Addr} {sl6 : Array (Option Value)} {oc6 kV6 dc6 pm6 cd6 ct6 : Value}
    {f7 : Addr} {od7 an7 : Option Addr} {sl7 : Array (Option Value)} {oc7 kV7 dc7 pm7 cd7 ct7 : Value}
    {f8 : Addr} {od8 an8 : Option Addr} {sl8 : Array (Option Value)} {oc8 kV8 dc8 pm8 cd8 ct8 : Value}
    {f9 : Addr} {od9 an9 : Option Addr} {sl9 : Array (Option Value)} {oc9 kV9 dc9 pm9 cd9 ct9 : Value}
    {f10 : Addr} {od10 an10 : Option Addr} {sl10 : Array (Option Value)} {oc10 kV10 dc10 pm10 cd10 ct10 : Value}
    {f11 : Addr} {od11 an11 : Option Addr} {sl11 : Array (Option Value)} {oc11 kV11 dc11 pm11 cd11 ct11 : Value}
    {f12 : Addr} {od12 an12 : Option Addr} {sl12 : Array (Option Value)} {oc12 kV12 dc12 pm12 cd12 ct12 : Value}
    {f13 : Addr} {od13 an13 : Option Addr} {sl13 : Array (Option Value)} {oc13 kV13 dc13 pm13 cd13 ct13 : Value}
    {f14 : Addr} {od14 an14 : Option Addr} {sl14 : Array (Option Value)} {oc14 kV14 dc14 pm14 cd14 ct14 : Value}
    {f15 : Addr} {od15 an15 : Option Addr} {sl15 : Array (Option Value)} {oc15 kV15 dc15 pm15 cd15 ct15 : Value}
    {f16 : Addr} {od16 an16 : Option Addr} {sl16 : Array (Option Value)} {oc16 kV16 dc16 pm16 cd16 ct16 : Value}
    {f17 : Addr} {od17 an17 : Option Addr} {sl17 : Array (Option Value)} {oc17 kV17 dc17 pm17 cd17 ct17 : Value}
    {f30 : Addr} {od30 an30 : Option Addr} {sl30 : Array (Option Value)} {oc30 kV30 dc30 pm30 cd30 ct30 : Value}
    {f31 : Addr} {od31 an31 : Option Addr} {sl31 : Array (Option Value)} {oc31 kV31 dc31 pm31 cd31 ct31 : Value}
    {f32 : Addr} {od32 an32 : Option Addr} {sl32 : Array (Option Value)} {oc32 kV32 dc32 pm32 cd32 ct32 : Value}
    {f33 : Addr} {od33 an33 : Option Addr} {sl33 : Array (Option Value)} {oc33 kV33 dc33 pm33 cd33 ct33 : Value}
    {f34 : Addr} {od34 an34 : Option Addr} {sl34 : Array (Option Value)} {oc34 kV34 dc34 pm34 cd34 ct34 : Value}
    {f40 : Addr} {od40 an40 : Option Addr} {sl40 : Array (Option Value)} {oc40 kV40 dc40 pm40 cd40 ct40 : Value}
    {f41 : Addr} {od41 an41 : Option Addr} {sl41 : Array (Option Value)} {oc41 kV41 dc41 pm41 cd41 ct41 : Value}
    {f42 : Addr} {od42 an42 : Option Addr} {sl42 : Array (Option Value)} {oc42 kV42 dc42 pm42 cd42 ct42 : Value}
    {t_MOST_SIMPLE : Tok}
    {t_MOST_MULTIPLIERS : Tok}
    {t_LONGEST_WORD : Tok}
    {t_GREATEST : Tok}
    {xnm xq xN xbs xbm xsn xsub xab xcol xdd xk0 xk1 xk2 xk3 xk5}
    (a0 : PySem.W.nsIn K mainGlobals "is_spoken" = some (some (.ref f0))) (l0 : K.lookup f0 = some ⟨oc0, od0, .func (PySem.W.fnOf "is_spoken" "is_spoken" (fnArgs sIsspoken) (fnBody sIsspoken) (fnScope sIsspoken) .none kV0 dc0 pm0 an0 cd0 ct0), sl0⟩) (c0 : PySem.W.codeIn K cd0 "is_spoken" = true) (k0 : PySem.W.keepIn K (.ref f0) = true)
    (a1 : PySem.W.nsIn K mainGlobals "is_word" = some (some (.ref f1))) (l1 : K.lookup f1 = some ⟨oc1, od1, .func (PySem.W.fnOf "is_word" "is_word" (fnArgs sIsword) (fnBody sIsword) (fnScope sIsword) .none kV1 dc1 pm1 an1 cd1 ct1), sl1⟩) (c1 : PySem.W.codeIn K cd1 "is_word" = true) (k1 : PySem.W.keepIn K (.ref f1) = true)
    (a2 : PySem.W.nsIn K mainGlobals "simple_fault" = some (some (.ref f2))) (l2 : K.lookup f2 = some ⟨oc2, od2, .func (PySem.W.fnOf "simple_fault" "simple_fault" (fnArgs sSfault) (fnBody sSfault) (fnScope sSfault) .none kV2 dc2 pm2 an2 cd2 ct2), sl2⟩) (c2 : PySem.W.codeIn K cd2 "simple_fault" = true) (k2 : PySem.W.keepIn K (.ref f2) = true)
    (a3 : PySem.W.nsIn K mainGlobals "multiplier_fault" = some (some (.ref f3))) (l3 : K.lookup f3 = some ⟨oc3, od3, .func (PySem.W.fnOf "multiplier_fault" "multiplier_fault" (fnArgs sMfault) (fnBody sMfault) (fnScope sMfault) .none kV3 dc3 pm3 an3 cd3 ct3), sl3⟩) (c3 : PySem.W.codeIn K cd3 "multiplier_fault" = true) (k3 : PySem.W.keepIn K (.ref f3) = true)
    (a4 : PySem.W.nsIn K mainGlobals "check_rows" = some (some (.ref f4))) (l4 : K.lookup f4 = some ⟨oc4, od4, .func (PySem.W.fnOf "check_rows" "check_rows" (fnArgs sCkrows) (fnBody sCkrows) (fnScope sCkrows) .none kV4 dc4 pm4 an4 cd4 ct4), sl4⟩) (c4 : PySem.W.codeIn K cd4 "check_rows" = true) (k4 : PySem.W.keepIn K (.ref f4) = true)
    (a5 : PySem.W.nsIn K mainGlobals "check_twice" = some (some (.ref f5))) (l5 : K.lookup f5 = some ⟨oc5, od5, .func (PySem.W.fnOf "check_twice" "check_twice" (fnArgs sCktwice) (fnBody sCktwice) (fnScope sCktwice) .none kV5 dc5 pm5 an5 cd5 ct5), sl5⟩) (c5 : PySem.W.codeIn K cd5 "check_twice" = true) (k5 : PySem.W.keepIn K (.ref f5) = true)
    (a6 : PySem.W.nsIn K mainGlobals "check_endless" = some (some (.ref f6))) (l6 : K.lookup f6 = some ⟨oc6, od6, .func (PySem.W.fnOf "check_endless" "check_endless" (fnArgs sCkendl) (fnBody sCkendl) (fnScope sCkendl) .none kV6 dc6 pm6 an6 cd6 ct6), sl6⟩) (c6 : PySem.W.codeIn K cd6 "check_endless" = true) (k6 : PySem.W.keepIn K (.ref f6) = true)
    (a7 : PySem.W.nsIn K mainGlobals "_law_pool" = some (some (.ref f7))) (l7 : K.lookup f7 = some ⟨oc7, od7, .func (PySem.W.fnOf "_law_pool" "_law_pool" (fnArgs sPool) (fnBody sPool) (fnScope sPool) .none kV7 dc7 pm7 an7 cd7 ct7), sl7⟩) (c7 : PySem.W.codeIn K cd7 "_law_pool" = true) (k7 : PySem.W.keepIn K (.ref f7) = true)
    (a8 : PySem.W.nsIn K mainGlobals "_law_take" = some (some (.ref f8))) (l8 : K.lookup f8 = some ⟨oc8, od8, .func (PySem.W.fnOf "_law_take" "_law_take" (fnArgs sTake) (fnBody sTake) (fnScope sTake) .none kV8 dc8 pm8 an8 cd8 ct8), sl8⟩) (c8 : PySem.W.codeIn K cd8 "_law_take" = true) (k8 : PySem.W.keepIn K (.ref f8) = true)
    (a9 : PySem.W.nsIn K mainGlobals "_law_word" = some (some (.ref f9))) (l9 : K.lookup f9 = some ⟨oc9, od9, .func (PySem.W.fnOf "_law_word" "_law_word" (fnArgs sWord) (fnBody sWord) (fnScope sWord) .none kV9 dc9 pm9 an9 cd9 ct9), sl9⟩) (c9 : PySem.W.codeIn K cd9 "_law_word" = true) (k9 : PySem.W.keepIn K (.ref f9) = true)
    (a10 : PySem.W.nsIn K mainGlobals "_law_rows" = some (some (.ref f10))) (l10 : K.lookup f10 = some ⟨oc10, od10, .func (PySem.W.fnOf "_law_rows" "_law_rows" (fnArgs sRows) (fnBody sRows) (fnScope sRows) .none kV10 dc10 pm10 an10 cd10 ct10), sl10⟩) (c10 : PySem.W.codeIn K cd10 "_law_rows" = true) (k10 : PySem.W.keepIn K (.ref f10) = true)
    (a11 : PySem.W.nsIn K mainGlobals "_law_is_integer" = some (some (.ref f11))) (l11 : K.lookup f11 = some ⟨oc11, od11, .func (PySem.W.fnOf "_law_is_integer" "_law_is_integer" (fnArgs sIsint) (fnBody sIsint) (fnScope sIsint) .none kV11 dc11 pm11 an11 cd11 ct11), sl11⟩) (c11 : PySem.W.codeIn K cd11 "_law_is_integer" = true) (k11 : PySem.W.keepIn K (.ref f11) = true)
    (a12 : PySem.W.nsIn K mainGlobals "_law_same" = some (some (.ref f12))) (l12 : K.lookup f12 = some ⟨oc12, od12, .func (PySem.W.fnOf "_law_same" "_law_same" (fnArgs sSame) (fnBody sSame) (fnScope sSame) .none kV12 dc12 pm12 an12 cd12 ct12), sl12⟩) (c12 : PySem.W.codeIn K cd12 "_law_same" = true) (k12 : PySem.W.keepIn K (.ref f12) = true)
    (a13 : PySem.W.nsIn K mainGlobals "_law_great" = some (some (.ref f13))) (l13 : K.lookup f13 = some ⟨oc13, od13, .func (PySem.W.fnOf "_law_great" "_law_great" (fnArgs sGreat) (fnBody sGreat) (fnScope sGreat) .none kV13 dc13 pm13 an13 cd13 ct13), sl13⟩) (c13 : PySem.W.codeIn K cd13 "_law_great" = true) (k13 : PySem.W.keepIn K (.ref f13) = true)
    (a14 : PySem.W.nsIn K mainGlobals "_law_told" = some (some (.ref f14))) (l14 : K.lookup f14 = some ⟨oc14, od14, .func (PySem.W.fnOf "_law_told" "_law_told" (fnArgs sTold) (fnBody sTold) (fnScope sTold) .none kV14 dc14 pm14 an14 cd14 ct14), sl14⟩) (c14 : PySem.W.codeIn K cd14 "_law_told" = true) (k14 : PySem.W.keepIn K (.ref f14) = true)
    (a15 : PySem.W.nsIn K mainGlobals "_law_bad_simple" = some (some (.ref f15))) (l15 : K.lookup f15 = some ⟨oc15, od15, .func (PySem.W.fnOf "_law_bad_simple" "_law_bad_simple" (fnArgs sBads) (fnBody sBads) (fnScope sBads) .none kV15 dc15 pm15 an15 cd15 ct15), sl15⟩) (c15 : PySem.W.codeIn K cd15 "_law_bad_simple" = true) (k15 : PySem.W.keepIn K (.ref f15) = true)
    (a16 : PySem.W.nsIn K mainGlobals "_law_bad_multiplier" = some (some (.ref f16))) (l16 : K.lookup f16 = some ⟨oc16, od16, .func (PySem.W.fnOf "_law_bad_multiplier" "_law_bad_multiplier" (fnArgs sBadm) (fnBody sBadm) (fnScope sBadm) .none kV16 dc16 pm16 an16 cd16 ct16), sl16⟩) (c16 : PySem.W.codeIn K cd16 "_law_bad_multiplier" = true) (k16 : PySem.W.keepIn K (.ref f16) = true)
    (a17 : PySem.W.nsIn K mainGlobals "_law_is_refused" = some (some (.ref f17))) (l17 : K.lookup f17 = some ⟨oc17, od17, .func (PySem.W.fnOf "_law_is_refused" "_law_is_refused" (fnArgs sRefd) (fnBody sRefd) (fnScope sRefd) .none kV17 dc17 pm17 an17 cd17 ct17), sl17⟩) (c17 : PySem.W.codeIn K cd17 "_law_is_refused" = true) (k17 : PySem.W.keepIn K (.ref f17) = true)
    (a30 : PySem.W.findIn K (.ref S) "words" = some (some (.ref f30))) (i30 : PySem.W.isFn K (.ref f30) = true) (l30 : K.lookup f30 = some ⟨oc30, od30, .func (PySem.W.fnOf "words" "System.words" (fnArgs sSysW) (fnBody sSysW) (fnScope sSysW) .none kV30 dc30 pm30 an30 cd30 ct30), sl30⟩) (c30 : PySem.W.codeIn K cd30 "System.words" = true) (k30 : PySem.W.keepIn K (.ref f30) = true)
    (a31 : PySem.W.findIn K (.ref S) "simple_value" = some (some (.ref f31))) (i31 : PySem.W.isFn K (.ref f31) = true) (l31 : K.lookup f31 = some ⟨oc31, od31, .func (PySem.W.fnOf "simple_value" "System.simple_value" (fnArgs sSysV) (fnBody sSysV) (fnScope sSysV) .none kV31 dc31 pm31 an31 cd31 ct31), sl31⟩) (c31 : PySem.W.codeIn K cd31 "System.simple_value" = true) (k31 : PySem.W.keepIn K (.ref f31) = true)
    (a32 : PySem.W.findIn K (.ref S) "multiplier" = some (some (.ref f32))) (i32 : PySem.W.isFn K (.ref f32) = true) (l32 : K.lookup f32 = some ⟨oc32, od32, .func (PySem.W.fnOf "multiplier" "System.multiplier" (fnArgs sSysM) (fnBody sSysM) (fnScope sSysM) .none kV32 dc32 pm32 an32 cd32 ct32), sl32⟩) (c32 : PySem.W.codeIn K cd32 "System.multiplier" = true) (k32 : PySem.W.keepIn K (.ref f32) = true)
    (a33 : PySem.W.findIn K (.ref S) "endless" = some (some (.ref f33))) (i33 : PySem.W.isFn K (.ref f33) = true) (l33 : K.lookup f33 = some ⟨oc33, od33, .func (PySem.W.fnOf "endless" "System.endless" (fnArgs sSysE) (fnBody sSysE) (fnScope sSysE) .none kV33 dc33 pm33 an33 cd33 ct33), sl33⟩) (c33 : PySem.W.codeIn K cd33 "System.endless" = true) (k33 : PySem.W.keepIn K (.ref f33) = true)
    (a34 : PySem.W.findIn K (.ref S) "bounded_maximum" = some (some (.ref f34))) (i34 : PySem.W.isFn K (.ref f34) = true) (l34 : K.lookup f34 = some ⟨oc34, od34, .func (PySem.W.fnOf "bounded_maximum" "System.bounded_maximum" (fnArgs sSysB) (fnBody sSysB) (fnScope sSysB) .none kV34 dc34 pm34 an34 cd34 ct34), sl34⟩) (c34 : PySem.W.codeIn K cd34 "System.bounded_maximum" = true) (k34 : PySem.W.keepIn K (.ref f34) = true)
    (a40 : PySem.W.nsIn K mainGlobals "law" = some (some (.ref f40))) (l40 : K.lookup f40 = some ⟨oc40, od40, .func (PySem.W.fnOf "law" "law" (defArgs sLaw) (defBody sLaw) (defScope sLaw) .none kV40 dc40 pm40 an40 cd40 ct40), sl40⟩) (c40 : PySem.W.codeIn K cd40 "law" = true) (k40 : PySem.W.keepIn K (.ref f40) = true)
    (a41 : PySem.W.findIn K (.ref S) "__init__" = some (some (.ref f41))) (i41 : PySem.W.isFn K (.ref f41) = true) (l41 : K.lookup f41 = some ⟨oc41, od41, .func (PySem.W.fnOf "__init__" "System.__init__" (defArgs sSysI) (defBody sSysI) (defScope sSysI) .none kV41 dc41 pm41 an41 cd41 ct41), sl41⟩) (c41 : PySem.W.codeIn K cd41 "System.__init__" = true) (k41 : PySem.W.keepIn K (.ref f41) = true)
    (a42 : PySem.W.findIn K (.ref C) "__init__" = some (some (.ref f42))) (i42 : PySem.W.typeIn K (.ref f42) = some (.type "function")) (l42 : K.lookup f42 = some ⟨oc42, od42, .func (PySem.W.fnOf "__init__" "BadSystem.__init__" (defArgs sBad) (defBody sBad) (defScope sBad) .none kV42 dc42 pm42 an42 cd42 ct42), sl42⟩) (c42 : PySem.W.codeIn K cd42 "BadSystem.__init__" = true) (k42 : PySem.W.keepIn K (.ref f42) = true)
    (gS : PySem.W.nsIn K mainGlobals "System" = some (some (.ref S)))
    (gC : PySem.W.nsIn K mainGlobals "BadSystem" = some (some (.ref C)))
    (gE : PySem.W.nsIn K mainGlobals "SayError" = some (some (.ref CE)))
    (z_int : PySem.W.nsIn K mainGlobals "int" = some none)
    (z_len : PySem.W.nsIn K mainGlobals "len" = some none)
    (z_range : PySem.W.nsIn K mainGlobals "range" = some none)
    (z_isinstance : PySem.W.nsIn K mainGlobals "isinstance" = some none)
    (z_bool : PySem.W.nsIn K mainGlobals "bool" = some none)
    (z_str : PySem.W.nsIn K mainGlobals "str" = some none)
    (z_tuple : PySem.W.nsIn K mainGlobals "tuple" = some none)
    (z_list : PySem.W.nsIn K mainGlobals "list" = some none)
    (z_all : PySem.W.nsIn K mainGlobals "all" = some none)
    (z_max : PySem.W.nsIn K mainGlobals "max" = some none)
    (z_min : PySem.W.nsIn K mainGlobals "min" = some none)
    (z_enumerate : PySem.W.nsIn K mainGlobals "enumerate" = some none)
    (z_ValueError : PySem.W.nsIn K mainGlobals "ValueError" = some none)
    (n_MOST_SIMPLE : PySem.W.nsIn K mainGlobals "MOST_SIMPLE" = some (some (.int 24 t_MOST_SIMPLE)))
    (n_MOST_MULTIPLIERS : PySem.W.nsIn K mainGlobals "MOST_MULTIPLIERS" = some (some (.int 6 t_MOST_MULTIPLIERS)))
    (n_LONGEST_WORD : PySem.W.nsIn K mainGlobals "LONGEST_WORD" = some (some (.int 8 t_LONGEST_WORD)))
    (n_GREATEST : PySem.W.nsIn K mainGlobals "GREATEST" = some (some (.int 100000 t_GREATEST)))
    (pg : PySem.W.plainGet K S Str.empty = true)
    (hd : PySem.W.hasDictIn K S = true)
    (po : PySem.W.plainOver K S = true)
    (sa : PySem.W.findIn K (.ref S) "__setattr__" = some (some (.builtin "object.__setattr__")))
    (mk : PySem.W.makesIn K S = true)
    (kc : PySem.W.keepIn K (.ref S) = true)
    (osimple : PySem.W.findIn K (.ref S) "simple" = some none)
    (omultipliers : PySem.W.findIn K (.ref S) "multipliers" = some none)
    (o_values : PySem.W.findIn K (.ref S) "_values" = some none)
    (o_rows : PySem.W.findIn K (.ref S) "_rows" = some none)
    (p_part : PySem.W.findIn K (.ref C) "part" = some none)
    (p_number : PySem.W.findIn K (.ref C) "number" = some none)
    (p_reason : PySem.W.findIn K (.ref C) "reason" = some none)
    (xl : K.lookup C = some (excClassObj xnm xq C xN xbs xbm true xsn xsub xab xcol xdd xk0 xk1 xk2 xk3 xk5 "ValueError.__new__"))
    (xr : PySem.HandSPX.refsVE xbm = true)
    (xsa : PySem.W.findIn K (.ref C) "__setattr__" = some (some (.builtin "object.__setattr__")))
    (xex : PySem.W.subIn K (.ref C) (.type "BaseException") = some true)
    (xty : PySem.W.typeIn K (.ref C) = some (.type "type"))
    (xkc : PySem.W.keepIn K (.ref C) = true)
    (dcl : PySem.W.isClsIn K C = true)
    (dga : PySem.W.findIn K (.ref C) "__getattribute__" = some (some (.builtin "BaseException.__getattribute__")))
    (dgg : PySem.W.findIn K (.ref C) "__getattr__" = some none)
    (dca : PySem.W.findIn K (.ref C) "__class__" = some (some (.builtin "object.__class__")))
    (dcn : PySem.W.specialIn K (.builtin "object.__class__") "__get__" = some (some (.builtin "getset_descriptor.__get__")))
    (dct : PySem.W.takesIn K (.builtin "object.__class__") = some true)
    (dcm : PySem.W.mroIn K C (.type "object") = some true)
    (dhd : PySem.W.hasDictIn K C = true)
    (hcE : PySem.W.isClsIn K CE = true)
    (htE : PySem.W.typeIn K (.ref CE) = some (.type "type"))
    (sCC : PySem.W.subIn K (.ref C) (.ref C) = some true)
    (sCE : PySem.W.subIn K (.ref C) (.ref CE) = some true)
    (sCV : PySem.W.subIn K (.ref C) (.type "ValueError") = some true)
    : ∃ fd : FuncData, (∀ (s : Shared) (v : Value), BindsTo s fd ⟨[v], []⟩ [("script", v)]) ∧ ∀ base : Heap, K.In base → base.Ns mainGlobals mg → FnOk P w K mg base CX0 8 fa fd ["script"] (spTop K) := by
  have e := hfa.symm.trans (PySem.W.mg_of X G a40)
  cases e
  have Z : Zs mg := ⟨PySem.W.mg_none_of X G z_int, PySem.W.mg_none_of X G z_len, PySem.W.mg_none_of X G z_range, PySem.W.mg_none_of X G z_isinstance, PySem.W.mg_none_of X G z_bool, PySem.W.mg_none_of X G z_str, PySem.W.mg_none_of X G z_tuple, PySem.W.mg_none_of X G z_list, PySem.W.mg_none_of X G z_all, PySem.W.mg_none_of X G z_max, PySem.W.mg_none_of X G z_min, PySem.W.mg_none_of X G z_enumerate⟩
  have CC : Cs mg := ⟨⟨_, PySem.W.mg_of X G n_MOST_SIMPLE, ⟨_, rfl⟩⟩, ⟨_, PySem.W.mg_of X G n_MOST_MULTIPLIERS, ⟨_, rfl⟩⟩, ⟨_, PySem.W.mg_of X G n_LONGEST_WORD, ⟨_, rfl⟩⟩, ⟨_, PySem.W.mg_of X G n_GREATEST, ⟨_, rfl⟩⟩⟩
  have F0 := def_of (st := sIsspoken) X G a0 l0 c0 k0
  have b0 := F0.fn.binds rfl (ps := ["row", "count"]) fun _ _ _ _ _ _ us hl => match us, hl with | [_, _], _ => rfl
  have F1 := def_of (st := sIsword) X G a1 l1 c1 k1
  have b1 := F1.fn.binds rfl (ps := ["text"]) fun _ _ _ _ _ _ us hl => match us, hl with | [_], _ => rfl
  have F2 := def_of (st := sSfault) X G a2 l2 c2 k2
  have b2 := F2.fn.binds rfl (ps := ["row"]) fun _ _ _ _ _ _ us hl => match us, hl with | [_], _ => rfl
  have F3 := def_of (st := sMfault) X G a3 l3 c3 k3
  have b3 := F3.fn.binds rfl (ps := ["row"]) fun _ _ _ _ _ _ us hl => match us, hl with | [_], _ => rfl
  have F4 := def_of (st := sCkrows) X G a4 l4 c4 k4
  have b4 := F4.fn.binds rfl (ps := ["part", "rows", "most", "fault"]) fun _ _ _ _ _ _ us hl => match us, hl with | [_, _, _, _], _ => rfl
  have F5 := def_of (st := sCktwice) X G a5 l5 c5 k5
  have b5 := F5.fn.binds rfl (ps := ["simple", "multipliers"]) fun _ _ _ _ _ _ us hl => match us, hl with | [_, _], _ => rfl
  have F6 := def_of (st := sCkendl) X G a6 l6 c6 k6
  have b6 := F6.fn.binds rfl (ps := ["multipliers"]) fun _ _ _ _ _ _ us hl => match us, hl with | [_], _ => rfl
  have F7 := def_of (st := sPool) X G a7 l7 c7 k7
  have b7 := F7.fn.binds rfl (ps := ["script"]) fun _ _ _ _ _ _ us hl => match us, hl with | [_], _ => rfl
  have F8 := def_of (st := sTake) X G a8 l8 c8 k8
  have b8 := F8.fn.binds rfl (ps := ["pool", "many"]) fun _ _ _ _ _ _ us hl => match us, hl with | [_, _], _ => rfl
  have F9 := def_of (st := sWord) X G a9 l9 c9 k9
  have b9 := F9.fn.binds rfl (ps := ["pool", "seen"]) fun _ _ _ _ _ _ us hl => match us, hl with | [_, _], _ => rfl
  have F10 := def_of (st := sRows) X G a10 l10 c10 k10
  have b10 := F10.fn.binds rfl (ps := ["pool", "most", "high", "counts"]) fun _ _ _ _ _ _ us hl => match us, hl with | [_, _, _, _], _ => rfl
  have F11 := def_of (st := sIsint) X G a11 l11 c11 k11
  have b11 := F11.fn.binds rfl (ps := ["actual"]) fun _ _ _ _ _ _ us hl => match us, hl with | [_], _ => rfl
  have F12 := def_of (st := sSame) X G a12 l12 c12 k12
  have b12 := F12.fn.binds rfl (ps := ["actual", "due"]) fun _ _ _ _ _ _ us hl => match us, hl with | [_, _], _ => rfl
  have F13 := def_of (st := sGreat) X G a13 l13 c13 k13
  have b13 := F13.fn.binds rfl (ps := ["pool", "rows"]) fun _ _ _ _ _ _ us hl => match us, hl with | [_, _], _ => rfl
  have F14 := def_of (st := sTold) X G a14 l14 c14 k14
  have b14 := F14.fn.binds rfl (ps := ["simple", "multipliers"]) fun _ _ _ _ _ _ us hl => match us, hl with | [_, _], _ => rfl
  have F15 := def_of (st := sBads) X G a15 l15 c15 k15
  have b15 := F15.fn.binds rfl (ps := ["pool", "simple"]) fun _ _ _ _ _ _ us hl => match us, hl with | [_, _], _ => rfl
  have F16 := def_of (st := sBadm) X G a16 l16 c16 k16
  have b16 := F16.fn.binds rfl (ps := ["pool", "multipliers"]) fun _ _ _ _ _ _ us hl => match us, hl with | [_, _], _ => rfl
  have F17 := def_of (st := sRefd) X G a17 l17 c17 k17
  have b17 := F17.fn.binds rfl (ps := ["pool", "simple", "multipliers"]) fun _ _ _ _ _ _ us hl => match us, hl with | [_, _, _], _ => rfl
  have F30 : C8.Fun K "words" "System.words" sSysW f30 _ := ⟨oc30, od30, .none, kV30, dc30, pm30, an30, cd30, ct30, sl30, rfl, l30, c30⟩
  have b30 := F30.binds rfl (ps := ["self"]) fun _ _ _ _ _ _ us hl => match us, hl with | [_], _ => rfl
  have F31 : C8.Fun K "simple_value" "System.simple_value" sSysV f31 _ := ⟨oc31, od31, .none, kV31, dc31, pm31, an31, cd31, ct31, sl31, rfl, l31, c31⟩
  have b31 := F31.binds rfl (ps := ["self", "word"]) fun _ _ _ _ _ _ us hl => match us, hl with | [_, _], _ => rfl
  have F32 : C8.Fun K "multiplier" "System.multiplier" sSysM f32 _ := ⟨oc32, od32, .none, kV32, dc32, pm32, an32, cd32, ct32, sl32, rfl, l32, c32⟩
  have b32 := F32.binds rfl (ps := ["self", "word"]) fun _ _ _ _ _ _ us hl => match us, hl with | [_, _], _ => rfl
  have F33 : C8.Fun K "endless" "System.endless" sSysE f33 _ := ⟨oc33, od33, .none, kV33, dc33, pm33, an33, cd33, ct33, sl33, rfl, l33, c33⟩
  have b33 := F33.binds rfl (ps := ["self"]) fun _ _ _ _ _ _ us hl => match us, hl with | [_], _ => rfl
  have F34 : C8.Fun K "bounded_maximum" "System.bounded_maximum" sSysB f34 _ := ⟨oc34, od34, .none, kV34, dc34, pm34, an34, cd34, ct34, sl34, rfl, l34, c34⟩
  have b34 := F34.binds rfl (ps := ["self"]) fun _ _ _ _ _ _ us hl => match us, hl with | [_], _ => rfl
  have F41 := fun_mk (st := sSysI) l41 c41 k41
  have b41 := F41.binds (ps := ["self", "simple", "multipliers"]) fun _ _ _ _ _ _ us hl => match us, hl with | [_, _, _], _ => rfl
  have F42 := fun_mk (st := sBad) l42 c42 k42
  have b42 := F42.binds (ps := ["self", "part", "number", "reason"]) fun _ _ _ _ _ _ us hl => match us, hl with | [_, _, _, _], _ => rfl
  have TB : BadK K mg C f42 := ⟨⟨⟨_, _, _, _, _, _, _, _, _, _, _, _, _, _, _, xl, xr⟩, xsa, xex, xty, xkc⟩, a42, i42, PySem.W.mg_of X G gC, p_part, p_number, p_reason⟩
  have TT : TellK K mg C CE := ⟨⟨dcl, dga, dgg, xex, dca, dcn, dct, dcm⟩, ⟨dga, dgg, xex, dhd⟩, exm_ref xex (kit_ref dcl xty sCC), PySem.W.mg_of X G gE, kit_one (kit_ref hcE htE sCE), kit_one (kit_typ rfl sCV), PySem.W.mg_none_of X G z_ValueError⟩
  have TS : SysK K S := ⟨⟨pg, hd, po, sa⟩, osimple, omultipliers, o_values, o_rows⟩
  have MS : Mk K S f41 := ⟨mk, a41, i41, kc⟩
  refine ⟨PySem.W.fnOf "law" "law" (defArgs sLaw) (defBody sLaw) (defScope sLaw) .none kV40 dc40 pm40 an40 cd40 ct40, fun s v => .of_eq rfl, fun base _ _ => ?_⟩
  have q_word : Cal P w K mg base 1 "is_word" spIsword [] := c_is_word Z CC F1 b1
  have q_spoken : Cal P w K mg base 1 "is_spoken" spSpoken [] := c_is_spoken F0 b0
  have q_take : Cal P w K mg base 2 "_law_take" spTake [] := c_take Z F8 b8
  have q_lword : Cal P w K mg base 3 "_law_word" spWord [] := c_word Z q_take F9 b9
  have q_pool : Cal P w K mg base 1 "_law_pool" (spPool K) [] := c_pool Z F7 b7
  have q_rows : Cal P w K mg base 4 "_law_rows" spRows [] := c_rows Z q_take q_lword F10 b10
  have q_great : Cal P w K mg base 4 "_law_great" spGreat [] := c_great Z q_take q_lword F13 b13
  have q_int : Cal P w K mg base 1 "_law_is_integer" spIsint [] := c_isint Z F11 b11
  have q_same2 : Cal P w K mg base 4 "_law_same" (spSame 2) [] := c_same Z q_int F12 b12 2
  have q_same4 : Cal P w K mg base 6 "_law_same" (spSame 4) [] := c_same Z q_int F12 b12 4
  have q_bads : Cal P w K mg base 3 "_law_bad_simple" spBads [] := c_bad_simple Z q_take F15 b15
  have q_badm : Cal P w K mg base 3 "_law_bad_multiplier" spBadm [] := c_bad_multiplier Z q_take F16 b16
  have cS := calAt_of (c_simple_fault Z CC q_word F2 b2 : Cal P w K mg base 2 "simple_fault" spSf []) F2.mgf
  have cM := calAt_of (c_multiplier_fault Z CC q_word F3 b3 : Cal P w K mg base 2 "multiplier_fault" spMf []) F3.mgf
  have GB : FnOk P w K mg base CX0 1 f42 _ ["self", "part", "number", "reason"] (spBadI C) := ok_bad TB F42
  have q_ckr := c_check_rows Z TB GB b42 cS cM F4 b4
  have q_ckt : CalX P w K mg base 3 "check_twice" (spTwice C) := c_check_twice Z TB GB b42 F5 b5
  have q_cke : CalX P w K mg base 3 "check_endless" (spEndl C) := c_check_endless Z TB GB b42 F6 b6
  have GS := ok_sysI Z CC TS ⟨_, F2.mgf, rfl⟩ ⟨_, F3.mgf, rfl⟩ q_ckr q_ckt q_cke F41
  have q_told := c_told Z TB TT (PySem.W.mg_of X G gS) MS GS b41 F14 b14
  have q_ref := c_is_refused Z q_take q_bads q_badm q_told q_same2 F17 b17
  exact ok_law Z TS (PySem.W.mg_of X G gS) MS GS b41 q_pool q_take q_rows q_great q_same4 q_spoken q_word q_ref (m_words Z TS ⟨a30, i30, k30⟩ F30 b30) (m_simple_value TS ⟨a31, i31, k31⟩ F31 b31) (m_multiplier TS ⟨a32, i32, k32⟩ F32 b32) (m_endless TS ⟨a33, i33, k33⟩ F33 b33) (m_bounded_maximum Z TS ⟨a34, i34, k34⟩ F34 b34) (fun_mk (st := sLaw) l40 c40 k40)
end KN
end
set_option Elab.async false
set_option maxRecDepth 100000
namespace KN
open PySem L2
theorem walk01 {l : PySem.W.OpenLaw} {q : Program} {loose : List Str} {XP : (Str → Option Value) → Heap → Prop}
    {YP : World → Heap → Prop} {d : DefRec} {K : Params → PySem.W.Frag}
    (hn : l.most = some 63) (hdf : d.params.defaults = []) (hY : ∀ (v : World) (g : Heap), YP v g → (K v.params).In g)
    (F : ∀ (v : World) (mg : Str → Option Value) (fa : Addr) (g : Heap), (K v.params).In g → g.Ns mainGlobals mg → mg d.name = some (.ref fa) → ∃ fd : FuncData,
      (∀ (s : Shared) (u : Value), BindsTo s fd ⟨[u], []⟩ [("script", u)]) ∧ ∀ base : Heap, (K v.params).In base → base.Ns mainGlobals mg → FnOk l.prog v (K v.params) mg base CX0 8 fa fd ["script"] (spTop (K v.params))) :
    PySem.W.WalkO q loose XP YP l.row.toRowW d [] (fun f vs => PySem.call f vs) :=
  L2.walk_of (n := 63) (k := 8) (x := "script") (CX := fun _ => CX0) (sp := fun v => spTop (K v.params)) hn (by decide) hdf ⟨rfl, by decide, by decide⟩ hY F
    (fun _ _ a ns hl _ hS => ⟨a, ns, rfl, hS, hl, fun _ => rfl⟩) fun _ _ _ _ _ z => z
end KN
open PySem PySem.W PyProof.Rows in
set_option maxRecDepth 100000 in
set_option maxHeartbeats 0 in
theorem PySem.Challenge.cw_sayonce_k01_systems_holds : PySem.Challenge.rw_sayonce_k01_systems.Holds := by
  w_on; o_law; k_head; (case hw => w_witness2)
  k_fill
  refine KN.walk01 (l := PySem.Challenge.rw_sayonce_k01_systems) rfl rfl (fun w h Y => PySem.W.kIn_of Y) ?F
  case F =>
    intro w mg fa h KX G hmg
    refine' KN.all_mk KX G hmg ?a0 ?l0 ?c0 ?k0 ?a1 ?l1 ?c1 ?k1 ?a2 ?l2 ?c2 ?k2 ?a3 ?l3 ?c3 ?k3 ?a4 ?l4 ?c4 ?k4 ?a5 ?l5 ?c5 ?k5 ?a6 ?l6 ?c6 ?k6 ?a7 ?l7 ?c7 ?k7 ?a8 ?l8 ?c8 ?k8 ?a9 ?l9 ?c9 ?k9 ?a10 ?l10 ?c10 ?k10 ?a11 ?l11 ?c11 ?k11 ?a12 ?l12 ?c12 ?k12 ?a13 ?l13 ?c13 ?k13 ?a14 ?l14 ?c14 ?k14 ?a15 ?l15 ?c15 ?k15 ?a16 ?l16 ?c16 ?k16 ?a17 ?l17 ?c17 ?k17 ?a30 ?i30 ?l30 ?c30 ?k30 ?a31 ?i31 ?l31 ?c31 ?k31 ?a32 ?i32 ?l32 ?c32 ?k32 ?a33 ?i33 ?l33 ?c33 ?k33 ?a34 ?i34 ?l34 ?c34 ?k34 ?a40 ?l40 ?c40 ?k40 ?a41 ?i41 ?l41 ?c41 ?k41 ?a42 ?i42 ?l42 ?c42 ?k42 ?gS ?gC ?gE ?z_int ?z_len ?z_range ?z_isinstance ?z_bool ?z_str ?z_tuple ?z_list ?z_all ?z_max ?z_min ?z_enumerate ?z_ValueError ?n_MOST_SIMPLE ?n_MOST_MULTIPLIERS ?n_LONGEST_WORD ?n_GREATEST ?pg ?hd ?po ?sa ?mk ?kc ?osimple ?omultipliers ?o_values ?o_rows ?p_part ?p_number ?p_reason ?xl ?xr ?xsa ?xex ?xty ?xkc ?dcl ?dga ?dgg ?dca ?dcn ?dct ?dcm ?dhd ?hcE ?htE ?sCC ?sCE ?sCV
    (case gS => k_is)
    (case gC => k_is)
    (case gE => k_is)
    (case a0 => k_is)
    (case l0 => k_is)
    (case c0 => k_is)
    (case k0 => k_is)
    (case a1 => k_is)
    (case l1 => k_is)
    (case c1 => k_is)
    (case k1 => k_is)
    (case a2 => k_is)
    (case l2 => k_is)
    (case c2 => k_is)
    (case k2 => k_is)
    (case a3 => k_is)
    (case l3 => k_is)
    (case c3 => k_is)
    (case k3 => k_is)
    (case a4 => k_is)
    (case l4 => k_is)
    (case c4 => k_is)
    (case k4 => k_is)
    (case a5 => k_is)
    (case l5 => k_is)
    (case c5 => k_is)
    (case k5 => k_is)
    (case a6 => k_is)
    (case l6 => k_is)
    (case c6 => k_is)
    (case k6 => k_is)
    (case a7 => k_is)
    (case l7 => k_is)
    (case c7 => k_is)
    (case k7 => k_is)
    (case a8 => k_is)
    (case l8 => k_is)
    (case c8 => k_is)
    (case k8 => k_is)
    (case a9 => k_is)
    (case l9 => k_is)
    (case c9 => k_is)
    (case k9 => k_is)
    (case a10 => k_is)
    (case l10 => k_is)
    (case c10 => k_is)
    (case k10 => k_is)
    (case a11 => k_is)
    (case l11 => k_is)
    (case c11 => k_is)
    (case k11 => k_is)
    (case a12 => k_is)
    (case l12 => k_is)
    (case c12 => k_is)
    (case k12 => k_is)
    (case a13 => k_is)
    (case l13 => k_is)
    (case c13 => k_is)
    (case k13 => k_is)
    (case a14 => k_is)
    (case l14 => k_is)
    (case c14 => k_is)
    (case k14 => k_is)
    (case a15 => k_is)
    (case l15 => k_is)
    (case c15 => k_is)
    (case k15 => k_is)
    (case a16 => k_is)
    (case l16 => k_is)
    (case c16 => k_is)
    (case k16 => k_is)
    (case a17 => k_is)
    (case l17 => k_is)
    (case c17 => k_is)
    (case k17 => k_is)
    (case a30 => k_is)
    (case i30 => k_is)
    (case l30 => k_is)
    (case c30 => k_is)
    (case k30 => k_is)
    (case a31 => k_is)
    (case i31 => k_is)
    (case l31 => k_is)
    (case c31 => k_is)
    (case k31 => k_is)
    (case a32 => k_is)
    (case i32 => k_is)
    (case l32 => k_is)
    (case c32 => k_is)
    (case k32 => k_is)
    (case a33 => k_is)
    (case i33 => k_is)
    (case l33 => k_is)
    (case c33 => k_is)
    (case k33 => k_is)
    (case a34 => k_is)
    (case i34 => k_is)
    (case l34 => k_is)
    (case c34 => k_is)
    (case k34 => k_is)
    (case a40 => k_is)
    (case l40 => k_is)
    (case c40 => k_is)
    (case k40 => k_is)
    (case a41 => k_is)
    (case i41 => k_is)
    (case l41 => k_is)
    (case c41 => k_is)
    (case k41 => k_is)
    (case a42 => k_is)
    (case i42 => k_is)
    (case l42 => k_is)
    (case c42 => k_is)
    (case k42 => k_is)
    (case z_int => k_is)
    (case z_len => k_is)
    (case z_range => k_is)
    (case z_isinstance => k_is)
    (case z_bool => k_is)
    (case z_str => k_is)
    (case z_tuple => k_is)
    (case z_list => k_is)
    (case z_all => k_is)
    (case z_max => k_is)
    (case z_min => k_is)
    (case z_enumerate => k_is)
    (case z_ValueError => k_is)
    (case n_MOST_SIMPLE => k_is)
    (case n_MOST_MULTIPLIERS => k_is)
    (case n_LONGEST_WORD => k_is)
    (case n_GREATEST => k_is)
    (case pg => k_is)
    (case hd => k_is)
    (case po => k_is)
    (case sa => k_is)
    (case mk => k_is)
    (case kc => k_is)
    (case osimple => k_is)
    (case omultipliers => k_is)
    (case o_values => k_is)
    (case o_rows => k_is)
    (case p_part => k_is)
    (case p_number => k_is)
    (case p_reason => k_is)
    (case xl => k_is)
    (case xr => first | rfl | decide +kernel)
    (case xsa => k_is)
    (case xex => k_is)
    (case xty => k_is)
    (case xkc => k_is)
    (case dcl => k_is)
    (case dga => k_is)
    (case dgg => k_is)
    (case dca => k_is)
    (case dcn => k_is)
    (case dct => k_is)
    (case dcm => k_is)
    (case dhd => k_is)
    (case hcE => k_is)
    (case htE => k_is)
    (case sCC => k_is)
    (case sCE => k_is)
    (case sCV => k_is)
