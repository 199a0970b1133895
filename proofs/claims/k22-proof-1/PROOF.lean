import PyProof.Rows.All
import Wide.All
import OpenK.AllK
import Wide.FinOn
import HandS.ForMost
import HandS.Codes
import HandS.IsInst
import HandS.TupAny
import HandS.Walk
import HandS.TryOnly
import HandS.DictComp
import KE.GoesEnum
import KE.GoesMore
import HandS.Style
import HandS.DictSub
import HandS.Wide
import KE.DataMinMax
import HandS.SortKw
import PyProof.WalkInts
import HandS.SetKeys
import HandS.Flow
import HandS.Iter
import HandS.Rev
import HandS.WideBits
import HandS.ForExc
import HandS.ExcInit
import HandS.ExcField
import KE.KExcIs
import PySem.Challenge.RW_sayonce_k22_how_many_are_said
import HandS.Defaults
import HandS.Conv
import HandS.Deep
import HandS.Strs
import HandS.Dict
import HandS.TupLen
import PyProof.LongRange
section
set_option Elab.async false
set_option linter.all false
set_option maxRecDepth 100000
set_option maxHeartbeats 4000000
/-! steps: one lemma for each head of a reading -/
namespace R
open PySem L2 SX C8
/-- all that stood elsewhere stands -/
def SameBut (p : Addr) (H H' : Hp) : Prop := ∀ b o, b ≠ p → H b = some o → H' b = some o
section
variable {σ : L2.St} {H H' : Hp} {ta tb te tc : TE} {t u tt : TT} {ts us : TS} {x y z v : V} {r r' : R2} {Q : VK} {QT : Bool → Hp → Prop} {QA : List V → Hp → Prop} {D : Ends} {K : PySem.W.Frag} {i j m : Int} {k : Nat} {a p l : Addr} {xs ys : List V} {A B : Prop} {b : Bool} {ar as : TA}
theorem var (h : σ[k]? = some (some v)) (q : Q v H) : tVar k σ H Q := ⟨v, h, q⟩
theorem c (q : Q v H) : tC v σ H Q := q
theorem op (q : ta σ H fun x H1 => tb σ H1 fun y H2 => r x y H2 Q) : tOp r ta tb σ H Q := q
theorem un {f : V → Hp → VK → Prop} (q : ta σ H fun x H1 => f x H1 Q) : tUn f ta σ H Q := q
theorem i0 {g : Int → Int → V} (q : Q (g i j) H) : rI0 g (.int i) (.int j) H Q := ⟨i, j, rfl, rfl, q⟩
theorem ic {C : Int → Int → Prop} {g : Int → Int → V} (hc : C i j) (q : Q (g i j) H) : rI C g (.int i) (.int j) H Q := ⟨i, j, rfl, rfl, hc, q⟩
theorem u0 {g : Int → V} (q : Q (g i) H) : rU g (.int i) H Q := ⟨i, rfl, q⟩
theorem eq (h : scal x y = true) (q : Q (.bl (decide (x = y))) H) : rEq x y H Q := ⟨h, q⟩
theorem ne (h : scal x y = true) (q : Q (.bl (!decide (x = y))) H) : rNe x y H Q := ⟨h, q⟩
theorem eqI (q : Q (.bl (decide (i = j))) H) : rEq (.int i) (.int j) H Q := ⟨rfl, by
  have e : decide (V.int i = V.int j) = decide (i = j) := by
    by_cases h : i = j
    · subst h; simp
    · have h' : ¬ V.int i = V.int j := fun z => h (V.int.inj z)
      rw [decide_eq_false h, decide_eq_false h']
  rw [e]; exact q⟩
theorem neI (q : Q (.bl (!decide (i = j))) H) : rNe (.int i) (.int j) H Q := ⟨rfl, by
  have e : decide (V.int i = V.int j) = decide (i = j) := by
    by_cases h : i = j
    · subst h; simp
    · have h' : ¬ V.int i = V.int j := fun z => h (V.int.inj z)
      rw [decide_eq_false h, decide_eq_false h']
  rw [e]; exact q⟩
theorem tst (q : te σ H fun x H' => ∃ k, x = .bl k ∧ QT k H') : tTest te σ H QT := q
theorem tb_ (q : te σ H fun x H' => ∃ k, x = .bl k ∧ QT k H') : tB te σ H QT := q
theorem ex {QB : Bool → Prop} (q : QB b) : ∃ k, V.bl b = .bl k ∧ QB k := ⟨b, rfl, q⟩
theorem and_ (q : t σ H fun c H1 => if c = true then tt σ H1 QT else QT false H1) : tAnd t tt σ H QT := q
theorem or_ (q : t σ H fun c H1 => if c = true then QT true H1 else tt σ H1 QT) : tOr t tt σ H QT := q
theorem not_ (q : t σ H fun c H1 => QT (!c) H1) : tNot t σ H QT := q
theorem ife (q : t σ H fun c H1 => if c = true then ta σ H1 Q else tb σ H1 Q) : tIf t ta tb σ H Q := q
theorem chain (q : ta σ H fun x H1 => tb σ H1 fun y H2 => r x y H2 fun z H3 => ∃ k, z = .bl k ∧ (if k = true then tc σ H3 fun w' H4 => r' y w' H4 Q else Q (.bl false) H3)) : tChain r r' ta tb tc σ H Q := q
theorem nil (q : QA [] H) : tNil σ H QA := q
theorem cons (q : ta σ H fun x H1 => ar σ H1 fun xs H2 => QA (x :: xs) H2) : tCons ta ar σ H QA := q
theorem tup (q : ar σ H fun xs H1 => xs.length ≤ sizeLine ∧ ∀ p, H1 p = none → Q (.ref p) (upd H1 p (.tup xs))) : tTup ar σ H Q := q
theorem lst (q : ar σ H fun xs H1 => xs.length ≤ sizeLine ∧ ∀ p, H1 p = none → Q (.ref p) (upd H1 p (.lst xs))) : tLst ar σ H Q := q
theorem call {sp : Sp} {dvs : List V} {E : XK} (q : ar σ H fun vs H1 => sp (vs ++ dvs) H1 Q E) : tCall sp dvs E ar σ H Q := q
theorem cb {f : List V → Hp → VK → Prop} (q : ar σ H fun vs H1 => f vs H1 Q) : tCB f ar σ H Q := q
theorem ixL (h : H p = some (.lst xs)) (e : atI xs i = some v) (q : Q v H) : rIxL K (.ref p) (.int i) H Q := ⟨p, xs, i, v, rfl, rfl, SqL.of h, e, q⟩
theorem ixLs (h : SqL K H p xs) (e : atI xs i = some v) (q : Q v H) : rIxL K (.ref p) (.int i) H Q := ⟨p, xs, i, v, rfl, rfl, h, e, q⟩
theorem ixT (h : SqT K H p xs) (e : atI xs i = some v) (q : Q v H) : rIxT K (.ref p) (.int i) H Q := ⟨p, xs, i, v, rfl, rfl, h, e, q⟩
theorem setL {QH : Hp → Prop} {n : Nat} (h : H p = some (.lst xs)) (e : ixN xs.length i = some n) (q : QH (upd H p (.lst (xs.set n v)))) : rSetL (.ref p) (.int i) v H QH := ⟨p, xs, i, n, rfl, rfl, h, e, q⟩
theorem bm {T : String} {f : V → List V → Hp → VK → Prop} (q : te σ H fun x H1 => tyV K T x H1 ∧ ar σ H1 fun xs H2 => f x xs H2 Q) : tBM K T f te ar σ H Q := q
theorem append (h : H p = some (.lst xs)) (e : xs.length < sizeLine) (q : Q .non (upd H p (.lst (xs ++ [y])))) : rAppend (.ref p) [y] H Q := ⟨p, xs, y, rfl, rfl, h, e, q⟩
theorem seq (q : ts { D with nx := us D } σ H) : tSeq ts us D σ H := q
theorem next (q : D.nx σ H) : tNext D σ H := q
theorem drop (q : te σ H fun _ H1 => D.nx σ H1) : tDrop te D σ H := q
theorem ret (q : te σ H D.rt) : tRet te D σ H := q
theorem retN (q : D.rt .non H) : tRetN D σ H := q
theorem ifs (q : t σ H fun b H1 => if b = true then ts D σ H1 else us D σ H1) : tIfS t ts us D σ H := q
theorem asg {g : TG} (q : te σ H fun x H1 => g x σ H1 D.nx) : tAsg te g D σ H := q
theorem gname {QS : L2.St → Hp → Prop} (q : QS (σ.set k (some v)) H) : gName k v σ H QS := q
theorem gsub {to ti : TE} {f : TSet} {QS : L2.St → Hp → Prop} (q : to σ H fun o H1 => ti σ H1 fun i H2 => f o i v H2 fun H3 => QS σ H3) : gSub to ti f v σ H QS := q
theorem gtup {n : Nat} {tg : TGs} {QS : L2.St → Hp → Prop} (h : SqT K H a xs) (e : xs.length = n) (q : tg xs σ H QS) : gTup K n tg (.ref a) σ H QS := ⟨a, xs, rfl, h, e, q⟩
theorem gnil {QS : L2.St → Hp → Prop} (q : QS σ H) : gNil [] σ H QS := ⟨rfl, q⟩
theorem gcons {g : TG} {gs : TGs} {QS : L2.St → Hp → Prop} (q : g v σ H fun σ' H' => gs xs σ' H' QS) : gCons g gs (v :: xs) σ H QS := ⟨v, xs, rfl, q⟩
theorem yes (q : QT true H) : tYes σ H QT := q
theorem it {C : Prop} [Decidable C] (h1 : C → A) (h2 : ¬ C → B) : if decide C = true then A else B := by
  by_cases h : C
  · rw [if_pos (decide_eq_true h)]; exact h1 h
  · rw [if_neg (by rw [decide_eq_false h]; exact Bool.false_ne_true)]; exact h2 h
theorem itn {C : Prop} [Decidable C] (h1 : ¬ C → A) (h2 : C → B) : if (!decide C) = true then A else B := by
  by_cases h : C
  · rw [decide_eq_true h]; exact h2 h
  · rw [decide_eq_false h]; exact h1 h
theorem itY {C : Prop} [Decidable C] (h : C) (q : A) : if decide C = true then A else B := by rw [if_pos (decide_eq_true h)]; exact q
theorem itN {C : Prop} [Decidable C] (h : ¬ C) (q : B) : if decide C = true then A else B := by rw [if_neg (by rw [decide_eq_false h]; exact Bool.false_ne_true)]; exact q
theorem itT (q : A) : if true = true then A else B := by rw [if_pos rfl]; exact q
theorem itF (q : B) : if false = true then A else B := by rw [if_neg Bool.false_ne_true]; exact q
theorem itNT (q : B) : if (!true) = true then A else B := q
theorem itNF (q : A) : if (!false) = true then A else B := q
theorem notT (q : QT false H) : QT (!true) H := q
theorem notF (q : QT true H) : QT (!false) H := q
/-! built-ins by name -/
def rInt1 : List V → Hp → VK → Prop := fun xs H Q => ∃ i, xs = [.int i] ∧ Q (.int i) H
def rLenS (K : PySem.W.Frag) : List V → Hp → VK → Prop := fun xs H Q => ∃ p ys, xs = [.ref p] ∧ (SqL K H p ys ∨ SqT K H p ys) ∧ Q (.int ys.length) H
def rLenStr : List V → Hp → VK → Prop := fun xs H Q => ∃ z : Str, xs = [.str z] ∧ z.length ≤ sizeLine ∧ Q (.int z.length) H
theorem cInt {X : Cx} : CallR X (.type "int") rInt1 := fun pins s σ H xs us Q I r h => call_int1 pins s σ H xs us Q I r (.inl h)
theorem cLen {X : Cx} : CallR X (.builtin "len") (rLenS X.K) := call_len_seq
theorem cLenS {X : Cx} : CallR X (.builtin "len") rLenStr := call_len_str
theorem int1 (q : Q (.int i) H) : rInt1 [.int i] H Q := ⟨i, rfl, q⟩
theorem lenL (h : H p = some (.lst xs)) (q : Q (.int xs.length) H) : rLenS K [.ref p] H Q := ⟨p, xs, rfl, .inl (SqL.of h), q⟩
theorem lenT (h : SqT K H p xs) (q : Q (.int xs.length) H) : rLenS K [.ref p] H Q := ⟨p, xs, rfl, .inr h, q⟩
theorem lenStr {w : Str} (h : w.length ≤ sizeLine) (q : Q (.int w.length) H) : rLenStr [.str w] H Q := ⟨w, rfl, h, q⟩
def rIs : R2 := fun x y H Q => y = .non ∧ Q (.bl (decide (x = .non))) H
def rIsNot : R2 := fun x y H Q => y = .non ∧ Q (.bl (!decide (x = .non))) H
theorem oIs {X : Cx} : OpR X (compareOp .Is) rIs := op_isN
theorem oIsNot {X : Cx} : OpR X (compareOp .IsNot) rIsNot := op_notN
theorem is_ (q : Q (.bl (decide (x = .non))) H) : rIs x .non H Q := ⟨rfl, q⟩
theorem isnot (q : Q (.bl (!decide (x = .non))) H) : rIsNot x .non H Q := ⟨rfl, q⟩
theorem isi {s t : String} {b : Bool} (ty : TyX K H x (.type s)) (h : kitB s t = some b) (q : Q (.bl b) H) : rIsi K [x, .ty t] H Q := ⟨x, .ty t, .type s, .type t, b, rfl, .ty t, ty, kit_ty h, q⟩
theorem tyN : TyX K H .non (.type "NoneType") := .base .non
theorem tyB {b : Bool} : TyX K H (.bl b) (.type "bool") := .base (.bl b)
theorem tyI : TyX K H (.int i) (.type "int") := .base (.int i)
theorem tyS {w : Str} : TyX K H (.str w) (.type "str") := .base (.str w)
theorem tyT (h : H a = some (.tup xs)) : TyX K H (.ref a) (.type "tuple") := .base (.tup h)
theorem tyL (h : H a = some (.lst xs)) : TyX K H (.ref a) (.type "list") := .base (.lst h)
theorem andV (q : ta σ H fun x H1 => ∃ c, x = .bl c ∧ if c = true then tb σ H1 Q else Q (.bl false) H1) : tAndV ta tb σ H Q := q
theorem orV (q : ta σ H fun x H1 => ∃ c, x = .bl c ∧ if c = true then Q (.bl true) H1 else tb σ H1 Q) : tOrV ta tb σ H Q := q
theorem notV (q : ta σ H fun x H1 => ∃ c, x = .bl c ∧ Q (.bl (!c)) H1) : tNotV ta σ H Q := q
theorem rng1 {R : It → Hp → Prop} {ar : TA} (q : ar σ H fun vs H1 => ∃ j : Int, vs = [.int j] ∧ -(2 ^ 62) ≤ j ∧ j < 2 ^ 62 ∧ R (Itr 0 j.toNat) H1) : iRng1 ar σ H R := q
theorem rngE {QR : Int → Prop} (h : -(2 ^ 62) ≤ i ∧ i < 2 ^ 62) (q : QR i) : ∃ j : Int, [V.int i] = [.int j] ∧ -(2 ^ 62) ≤ j ∧ j < 2 ^ 62 ∧ QR j := ⟨i, rfl, h.1, h.2, q⟩
theorem all_ {bs : List Bool} (h : H p = some (.lst (bs.map V.bl))) (q : Q (.bl (bs.all id)) H) : rAll K [.ref p] H Q := ⟨p, bs, rfl, SqL.of h, q⟩
theorem all_rep : ∀ n, (List.replicate n true).all id = true
  | 0 => rfl
  | n + 1 => by rw [List.replicate_succ, List.all_cons, all_rep n]; rfl
/-! the written part told outright -/
section
variable {X : Cx} (K : PySem.W.Frag)
theorem kIxL (h : X.K = K := by rfl) : IxR X (rIxL K) := h ▸ ix_list
theorem kIxT (h : X.K = K := by rfl) : IxR X (rIxT K) := h ▸ ix_tup
theorem kLen (h : X.K = K := by rfl) : CallR X (.builtin "len") (rLenS K) := h ▸ cLen
theorem kIsi (h : X.K = K := by rfl) : CallR X (.builtin "isinstance") (rIsi K) := h ▸ call_isi
theorem kIn (h : X.K = K := by rfl) : OpR X (compareOp .In) (rIn K false) := h ▸ op_in_seq
theorem kNotIn (h : X.K = K := by rfl) : OpR X (compareOp .NotIn) (rIn K true) := h ▸ op_notIn_seq
theorem kAll (hc : X.calm = true := by rfl) (h : X.K = K := by rfl) : CallR X (.builtin "all") (rAll K) := h ▸ cr_all hc
theorem kMax (hc : X.calm = true := by rfl) (h : X.K = K := by rfl) : CallR X (.builtin "max") (rMax K) := h ▸ cr_max hc
theorem kMin (hc : X.calm = true := by rfl) (h : X.K = K := by rfl) : CallR X (.builtin "min") (rMin K) := h ▸ cr_min hc
theorem kCatT (h : X.K = K := by rfl) : OpR X (binaryOp .Add) (rCatA K) := h ▸ op_catA
theorem kSlL (h : X.K = K := by rfl) : SlR X (rSlL K) := h ▸ sl_list
def rListS (K : PySem.W.Frag) : List V → Hp → VK → Prop := fun xs H Q => ∃ p ys, xs = [.ref p] ∧ (SqL K H p ys ∨ SqT K H p ys) ∧ ∀ l, H l = none → Q (.ref l) (upd H l (.lst ys))
def rTupS (K : PySem.W.Frag) : List V → Hp → VK → Prop := fun xs H Q => ∃ p ys, xs = [.ref p] ∧ ((SqL K H p ys ∧ ∀ l, H l = none → Q (.ref l) (upd H l (.tup ys))) ∨ (SqT K H p ys ∧ Q (.ref p) H))
theorem kList (h : X.K = K := by rfl) : CallR X (.type "list") (rListS K) := h ▸ call_list_of
theorem kTuple (h : X.K = K := by rfl) : CallR X (.type "tuple") (rTupS K) := h ▸ call_tuple_of
def rMax2 : List V → Hp → VK → Prop := fun xs H Q => ∃ i j, xs = [.int i, .int j] ∧ Q (.int (if j > i then j else i)) H
def rMin2 : List V → Hp → VK → Prop := fun xs H Q => ∃ i j, xs = [.int i, .int j] ∧ Q (.int (if j < i then j else i)) H
theorem kMax2 (hc : X.calm = true := by rfl) : CallR X (.builtin "max") rMax2 := call_max2 hc
theorem kMin2 (hc : X.calm = true := by rfl) : CallR X (.builtin "min") rMin2 := call_min2 hc
theorem kiL {tg l : Expr} {tl : TE} (hl : PE X l tl) (h : X.K = K := by rfl) : PI X tg l (iList K tl) := h ▸ pi_list hl
theorem kiT {tg l : Expr} {tl : TE} (hl : PE X l tl) (h : X.K = K := by rfl) : PI X tg l (iTup K tl) := h ▸ pi_tup hl
theorem kFld {e : Expr} {ta : TE} {f : Str} {pos : Pos} (he : PE X e ta) (hb : attributeBase e f X.env (eval e X.env) = eval e X.env := by rfl) (h : X.K = K := by rfl) : PE X (.Attribute e f pos) (tFld K ta f) := h ▸ pe_fld he hb
def rAddS : R2 := fun x y H Q => ∃ i j : Str, x = .str i ∧ y = .str j ∧ i.length + j.length ≤ sizeLine ∧ Q (.str (i ++ j)) H
theorem oAddS {X : Cx} : OpR X (binaryOp .Add) rAddS := op_add_str
end
theorem addS {i j : Str} (h : i.length + j.length ≤ sizeLine) (q : Q (.str (i ++ j)) H) : rAddS (.str i) (.str j) H Q := ⟨i, j, rfl, rfl, h, q⟩
theorem listL (h : H p = some (.lst xs)) (q : ∀ l, H l = none → Q (.ref l) (upd H l (.lst xs))) : rListS K [.ref p] H Q := ⟨p, xs, rfl, .inl (SqL.of h), q⟩
theorem listT (h : SqT K H p xs) (q : ∀ l, H l = none → Q (.ref l) (upd H l (.lst xs))) : rListS K [.ref p] H Q := ⟨p, xs, rfl, .inr h, q⟩
theorem tupL (h : H p = some (.lst xs)) (q : ∀ l, H l = none → Q (.ref l) (upd H l (.tup xs))) : rTupS K [.ref p] H Q := ⟨p, xs, rfl, .inl ⟨SqL.of h, q⟩⟩
theorem tupT (h : SqT K H p xs) (q : Q (.ref p) H) : rTupS K [.ref p] H Q := ⟨p, xs, rfl, .inr ⟨h, q⟩⟩
theorem max2 (q : Q (.int (if j > i then j else i)) H) : rMax2 [.int i, .int j] H Q := ⟨i, j, rfl, q⟩
theorem min2 (q : Q (.int (if j < i then j else i)) H) : rMin2 [.int i, .int j] H Q := ⟨i, j, rfl, q⟩
theorem fld {C dx : Addr} {fs : List (Str × V)} {f : Str} (q : ta σ H fun x H1 => ∃ a C dx fs v, x = .ref a ∧ H1 a = some (.ins C dx fs) ∧ Cls K C ∧ NoAttr K C f ∧ fs.lookup f = some v ∧ Q v H1) : tFld K ta f σ H Q := q
theorem itlist {R : It → Hp → Prop} (q : ta σ H fun x H1 => ∃ a, x = .ref a ∧ (∃ xs, SqL K H1 a xs) ∧ R (Itl K a) H1) : iList K ta σ H R := q
theorem ittup {R : It → Hp → Prop} (q : ta σ H fun x H1 => ∃ a, x = .ref a ∧ (∃ xs, SqT K H1 a xs) ∧ R (Itt K a) H1) : iTup K ta σ H R := q
theorem kit_NoneType_tuple : kitB "NoneType" "tuple" = some false := by decide +kernel
theorem kit_NoneType_list : kitB "NoneType" "list" = some false := by decide +kernel
theorem kit_NoneType_bool : kitB "NoneType" "bool" = some false := by decide +kernel
theorem kit_NoneType_str : kitB "NoneType" "str" = some false := by decide +kernel
theorem kit_NoneType_int : kitB "NoneType" "int" = some false := by decide +kernel
theorem kit_bool_tuple : kitB "bool" "tuple" = some false := by decide +kernel
theorem kit_bool_list : kitB "bool" "list" = some false := by decide +kernel
theorem kit_bool_bool : kitB "bool" "bool" = some true := by decide +kernel
theorem kit_bool_str : kitB "bool" "str" = some false := by decide +kernel
theorem kit_bool_int : kitB "bool" "int" = some true := by decide +kernel
theorem kit_int_tuple : kitB "int" "tuple" = some false := by decide +kernel
theorem kit_int_list : kitB "int" "list" = some false := by decide +kernel
theorem kit_int_bool : kitB "int" "bool" = some false := by decide +kernel
theorem kit_int_str : kitB "int" "str" = some false := by decide +kernel
theorem kit_int_int : kitB "int" "int" = some true := by decide +kernel
theorem kit_str_tuple : kitB "str" "tuple" = some false := by decide +kernel
theorem kit_str_list : kitB "str" "list" = some false := by decide +kernel
theorem kit_str_bool : kitB "str" "bool" = some false := by decide +kernel
theorem kit_str_str : kitB "str" "str" = some true := by decide +kernel
theorem kit_str_int : kitB "str" "int" = some false := by decide +kernel
theorem kit_tuple_tuple : kitB "tuple" "tuple" = some true := by decide +kernel
theorem kit_tuple_list : kitB "tuple" "list" = some false := by decide +kernel
theorem kit_tuple_bool : kitB "tuple" "bool" = some false := by decide +kernel
theorem kit_tuple_str : kitB "tuple" "str" = some false := by decide +kernel
theorem kit_tuple_int : kitB "tuple" "int" = some false := by decide +kernel
theorem kit_list_tuple : kitB "list" "tuple" = some false := by decide +kernel
theorem kit_list_list : kitB "list" "list" = some true := by decide +kernel
theorem kit_list_bool : kitB "list" "bool" = some false := by decide +kernel
theorem kit_list_str : kitB "list" "str" = some false := by decide +kernel
theorem kit_list_int : kitB "list" "int" = some false := by decide +kernel
/-- the turns of a comprehension whose new list is at D -/
def LcW (J : It) (g : TG) (tt : TT) (te : TE) (vs : List Nat) (σ : L2.St) (H1 : Hp) (D : Addr) (Q : VK) : Prop :=
  ∃ W : Nat → Nat → Hp → Prop, (∃ m, W 0 m (upd H1 D (.lst []))) ∧
    ∀ i m H, W i m H → (J.stop i H ∧ Q (.ref D) H) ∨
      (J.go i H ∧ ∃ Nx : Hp → Prop, (∀ H', Nx H' → ∃ m', m' < m ∧ W (i + 1) m' H') ∧
        ∀ x H', J.yld i H x H' → g x (wipe σ vs) H' fun σ2 H2 => wipe σ2 vs = wipe σ vs ∧
          tt σ2 H2 fun b H3 => if b = true then te σ2 H3 fun y H4 => ∃ acc, H4 D = some (.lst acc) ∧ acc.length < sizeLine ∧ Nx (upd H4 D (.lst (acc ++ [y]))) else Nx H3)
theorem lc {wi : TI} {g : TG} {vs : List Nat} (q : wi σ H fun J H1 => ∀ D, H1 D = none → LcW J g tt te vs σ H1 D Q) : tLc wi g tt te vs σ H Q := q
def ForW (J : It) (g : TG) (ts : TS) (D : Ends) (σ : L2.St) (H1 : Hp) : Prop :=
  ∃ W : Nat → Nat → L2.St → Hp → Prop, (∃ m, W 0 m σ H1) ∧
    ∀ i m σ H, W i m σ H → (J.stop i H ∧ D.nx σ H) ∨
      (J.go i H ∧ ∃ N : L2.St → Hp → Prop, (∀ σ' H', N σ' H' → ∃ m', m' < m ∧ W (i + 1) m' σ' H') ∧
        ∀ x H', J.yld i H x H' → g x σ H' fun σ2 H2 => ts { D with nx := N, ct := N, bk := D.nx } σ2 H2)
theorem for_ {wi : TI} {g : TG} (q : wi σ H fun J H1 => ForW J g ts D σ H1) : tFor wi g ts D σ H := q
theorem dT {C : Prop} [Decidable C] (h : C) (q : Q (.bl true) H) : Q (.bl (decide C)) H := by rw [decide_eq_true h]; exact q
/-! signs and texts -/
def rLeS : R2 := fun x y H Q => ∃ i j : Str, x = .str i ∧ y = .str j ∧ Q (.bl (!decide (j.cps.toList < i.cps.toList))) H
theorem oLeS {X : Cx} : OpR X (compareOp .LtE) rLeS := op_le_str
theorem leS {s u : Str} (q : Q (.bl (!decide (u.cps.toList < s.cps.toList))) H) : rLeS (.str s) (.str u) H Q := ⟨s, u, rfl, rfl, q⟩
theorem lt1 {a b : Nat} : ([a] < [b]) ↔ a < b := by
  constructor
  · intro h
    rcases Nat.lt_trichotomy a b with q | q | q
    · exact q
    · subst q; exact absurd h (List.lt_irrefl _)
    · exact absurd (List.lt_trans h (List.Lex.rel q)) (List.lt_irrefl _)
  · intro h; exact List.Lex.rel h
theorem ixS {w : Str} {n : Nat} (h : w.length ≤ sizeLine) (e : atI w.cps.toList i = some n) (q : Q (.str ⟨#[n]⟩) H) : rIxS (.str w) (.int i) H Q := ⟨w, i, n, rfl, rfl, h, e, q⟩
theorem itstr {R : It → Hp → Prop} (q : te σ H fun v H1 => ∃ x, v = .str x ∧ R (Its x) H1) : iStr te σ H R := q
theorem itstrE {w : Str} {R : Str → Prop} (q : R w) : ∃ x, V.str w = .str x ∧ R x := ⟨w, rfl, q⟩
theorem chE {b : Bool} {QB : Bool → Prop} (q : QB b) : ∃ k, V.bl b = .bl k ∧ QB k := ⟨b, rfl, q⟩
theorem inL {b : Bool} (h : H p = some (.lst xs)) (hx : flatV x = true) (hs : xs.all flatV = true) (e : inV x xs = b) (q : Q (.bl b) H) : rIn K false x (.ref p) H Q := ⟨p, xs, rfl, .inl (SqL.of h), hx, hs, by subst e; exact q⟩
theorem ninL {b : Bool} (h : H p = some (.lst xs)) (hx : flatV x = true) (hs : xs.all flatV = true) (e : (!inV x xs) = b) (q : Q (.bl b) H) : rIn K true x (.ref p) H Q := ⟨p, xs, rfl, .inl (SqL.of h), hx, hs, by subst e; exact q⟩
theorem inT {b : Bool} (h : H p = some (.tup xs)) (hx : flatV x = true) (hs : xs.all flatV = true) (e : inV x xs = b) (q : Q (.bl b) H) : rIn K false x (.ref p) H Q := ⟨p, xs, rfl, .inr (SqT.of h), hx, hs, by subst e; exact q⟩
theorem flat_strs (ws : List Str) : (ws.map V.str).all flatV = true := by
  rw [List.all_eq_true]; intro v hv; obtain ⟨w, _, rfl⟩ := List.mem_map.mp hv; rfl
theorem in_strs (w : Str) : ∀ ws : List Str, inV (.str w) (ws.map V.str) = decide (w ∈ ws)
  | [] => rfl
  | u :: ws => by
    have ih := in_strs w ws
    unfold inV at ih ⊢
    rw [List.map_cons, List.any_cons, ih]
    by_cases h : w = u
    · subst h
      have e : eqV (.str w) (.str w) = true := by simp [eqV]
      rw [e]; simp
    · have e : eqV (.str u) (.str w) = false := by
        simp only [eqV]
        simpa using fun z => h z.symm
      rw [e]; simp [h]
theorem atI_in {xs : List V} {i : Int} (h0 : 0 ≤ i) (h1 : i < xs.length) : ∃ v, v ∈ xs ∧ atI xs i = some v := by
  have hlt : i.toNat < xs.length := by omega
  exact ⟨xs[i.toNat], List.getElem_mem hlt, at_of (by omega) (List.getElem?_eq_getElem hlt)⟩
theorem joinS (a : List Nat) (ys : List (List Nat)) : Txt.join (S a) (ys.map S) = S (TL.joinL a ys) := join_S a ys
theorem joinL_nil : ∀ ys : List (List Nat), TL.joinL [] ys = ys.flatten
  | [] => rfl
  | [p] => by simp [TL.joinL]
  | p :: q :: r => by
    have ih := joinL_nil (q :: r)
    simp only [TL.joinL] at ih ⊢
    rw [List.nil_append, ih]
    simp
/-- of more texts than are taken one is free -/
theorem one_free {α : Type} [DecidableEq α] : ∀ (l ws : List α), l.Nodup → ws.length < l.length → ∃ x ∈ l, x ∉ ws := by
  intro l
  induction l with
  | nil => intro ws _ h; exact absurd h (Nat.not_lt_zero _)
  | cons a l ih =>
    intro ws hn h
    by_cases ha : a ∈ ws
    · obtain ⟨h1, h2⟩ := List.nodup_cons.mp hn
      have hl : (ws.erase a).length < l.length := by
        rw [List.length_erase_of_mem ha]
        have : 0 < ws.length := List.length_pos_of_mem ha
        rw [List.length_cons] at h
        omega
      obtain ⟨x, hx, hx2⟩ := ih (ws.erase a) h2 hl
      refine ⟨x, List.mem_cons_of_mem _ hx, fun m => hx2 ?_⟩
      have hxa : x ≠ a := fun e => h1 (e ▸ hx)
      exact (List.mem_erase_of_ne hxa).mpr m
    · exact ⟨a, List.mem_cons_self, ha⟩
section
variable {X : Cx} (K : PySem.W.Frag)
def rJoin (K : PySem.W.Frag) : V → List V → Hp → VK → Prop := fun x xs H Q => ∃ (a : Str) (p : Addr) (ys : List Str), x = .str a ∧ xs = [.ref p] ∧ (SqL K H p (ys.map V.str) ∨ SqT K H p (ys.map V.str)) ∧
  (ys.map (·.length)).sum + ys.length * a.length ≤ 16777216 ∧ Q (.str (Txt.join a ys)) H
theorem kJoin {o e : Expr} {to te : TE} {apos pos : Pos} (ho : PE X o to) (he : PE X e te) (hs : starEach [e] X.env = [(false, eval e X.env)] := by rfl) (hbase : attributeBase o "join" X.env (eval o X.env) = eval o X.env := by rfl) (hline : (apos.endLine == pos.line) = true := by rfl) (h : X.K = K := by rfl) :
    PE X (.Call (.Attribute o "join" apos) [e] [] pos) (tM1 (rJoin K) to te) := h ▸ pe_join ho he hs hbase hline
end
theorem join_ {a : Str} {ys : List Str} (h : H p = some (.lst (ys.map V.str))) (hz : (ys.map (·.length)).sum + ys.length * a.length ≤ 16777216) (q : Q (.str (Txt.join a ys)) H) : rJoin K (.str a) [.ref p] H Q := ⟨a, p, ys, rfl, rfl, .inl (SqL.of h), hz, q⟩
theorem m1 {f : V → List V → Hp → VK → Prop} (q : ta σ H fun x H1 => (∃ a, x = .str a) ∧ te σ H1 fun y H2 => f x [y] H2 Q) : tM1 f ta te σ H Q := q
theorem m1s {w : Str} (q : A) : (∃ a, V.str w = .str a) ∧ A := ⟨⟨w, rfl⟩, q⟩
section
variable {X : Cx} (K : PySem.W.Frag)
theorem kBM {e : Expr} {T : String} {f : V → List V → Hp → VK → Prop} {to : TE} {t : TA} (hp : PE X e (tBM X.K T f to t)) (h : X.K = K := by rfl) : PE X e (tBM K T f to t) := h ▸ hp
end
theorem tyl (h : H p = some (.lst xs)) (q : A) : tyV K "list" (.ref p) H ∧ A := ⟨.inl ⟨rfl, _, SqL.of h⟩, q⟩
theorem itlE {QQ : Addr → Prop} (h : H p = some (.lst xs)) (q : QQ p) : ∃ a, V.ref p = .ref a ∧ (∃ xs, SqL K H a xs) ∧ QQ a := ⟨p, rfl, ⟨xs, SqL.of h⟩, q⟩
theorem ittE {QQ : Addr → Prop} (h : H p = some (.tup xs)) (q : QQ p) : ∃ a, V.ref p = .ref a ∧ (∃ xs, SqT K H a xs) ∧ QQ a := ⟨p, rfl, ⟨xs, SqT.of h⟩, q⟩
theorem flat1 : ∀ cs : List Nat, (cs.map fun c => [c]).flatten = cs
  | [] => rfl
  | c :: cs => by rw [List.map_cons, List.flatten_cons, flat1 cs]; rfl
theorem cut {t u : TS} (Mid : L2.St → Hp → Prop) (h1 : t { D with nx := Mid } σ H) (h2 : ∀ σ' H', Mid σ' H' → u D σ' H') : tCut t u D σ H := ⟨Mid, h1, h2⟩
theorem sb {o : HO} {b : Addr} (e : SameBut p H H') (n : b ≠ p) (h : H b = some o) : H' b = some o := e b o n h
theorem sm {o : HO} {b : Addr} (e : Same H H') (h : H b = some o) : H' b = some o := e b o h
/-! heaps -/
theorem SameBut.refl : SameBut p H H := fun _ _ _ h => h
theorem SameBut.trans {H1 H2 : Hp} (e : SameBut p H H1) (f : SameBut p H1 H2) : SameBut p H H2 := fun b o n h => f b o n (e b o n h)
theorem SameBut.put {o : HO} (e : SameBut p H H') : SameBut p H (upd H' p o) := fun b u n h => by rw [upd_ne n]; exact e b u n h
theorem SameBut.new {o : HO} {q : Addr} (e : SameBut p H H') (n : H' q = none) : SameBut p H (upd H' q o) := fun b u hb h => by
  have h' := e b u hb h
  rw [upd_ne (ne_of_none h' n)]; exact h'
theorem SameBut.of (e : Same H H') : SameBut p H H' := fun b o _ h => e b o h
theorem same_new {o : HO} {q : Addr} (e : Same H H') (n : H' q = none) : Same H (upd H' q o) := fun b u h => by
  have h' := e b u h
  rw [upd_ne (ne_of_none h' n)]; exact h'
/-- an object that was not there before may change -/
theorem same_put {o : HO} {q : Addr} (e : Same H H') (n : H q = none) : Same H (upd H' q o) := fun b u h => by
  rw [upd_ne (ne_of_none h n)]; exact e b u h
theorem SameBut.put' {o : HO} {q : Addr} (e : SameBut p H H') (n : H q = none) : SameBut p H (upd H' q o) := fun b u hb h => by
  rw [upd_ne (ne_of_none h n)]; exact e b u hb h
theorem free_of (e : Same H H') (h : H' p = none) : H p = none := e.free h
theorem free_new {o : HO} {q : Addr} (h : upd H p o q = none) : H q = none := by
  by_cases e : q = p
  · subst e; rw [upd_same] at h; cases h
  · rw [upd_ne e] at h; exact h
theorem ne_new {o : HO} {q : Addr} (h : upd H p o q = none) : q ≠ p := fun e => by
  subst e; rw [upd_same] at h; cases h
/-! slots at the start -/
def startE : List Str → List V → List (Option V)
  | [], vs => vs.map some
  | _ :: N, v :: vs => some v :: startE N vs
  | _ :: N, [] => none :: startE N []
theorem start_eq : ∀ (N : List Str) (vs : List V), L2.start N vs = startE N vs
  | [], vs => by simp [L2.start, startE]
  | n :: N, v :: vs => by
    have q := start_eq N vs
    unfold L2.start at q ⊢
    simp only [startE, ← q, List.map_cons, List.length_cons, Nat.add_sub_add_right, List.cons_append]
  | n :: N, [] => by
    have q := start_eq N []
    unfold L2.start at q ⊢
    simp only [startE, ← q, List.map_nil, List.length_cons, List.length_nil, Nat.sub_zero, List.nil_append, List.replicate_succ]
end
end R
end
section
set_option Elab.async false
set_option linter.all false
set_option maxRecDepth 100000
set_option maxHeartbeats 4000000
/-! enumerate(t), t a tuple -/
namespace PySem
set_option maxRecDepth 100000
/-- enumerate of one argument whose iterator is known -/
theorem enum1_meets {v : Value} {o : Obj} {G : Heap → Prop} (B : Begins v o G) :
    Meets (Builtin.«enumerate.__new__» ⟨[.type "enumerate", v], []⟩)
      (fun _ R s => G s.heap ∧ R (.ok (.ret (.ref (s.heap.push o).objs.size)))
        { s with heap := (s.heap.push o).push { cls := .type "enumerate", data := .fields #[.none, .bool false, .ref s.heap.objs.size, rawInt 0, .none, .none] } }) :=
  .of_wp fun prog w A R s hs => by
    obtain ⟨hp, gs, dr, tk, os⟩ := s
    obtain ⟨g1, r1⟩ := hs
    have hsub := sub_enumerate
    have it1 : ∀ {A' : Around} {E : Value → Shared → Prop} {Q : Value → Shared → Prop},
        Q (.ref hp.objs.size) ⟨hp.push o, gs, dr, tk, os⟩ → wpAny (model prog w) A' (pyIter v) Q E ⟨hp, gs, dr, tk, os⟩ :=
      fun z => B.iter prog w _ _ ⟨hp, gs, dr, tk, os⟩ _ g1 z
    wp_walk using it1
    refine wpAny_stack_any fun st => wpAny_pure ?_
    split
    · rename_i c _ _ _ _ _
      cases (c == Value.type "enumerate")
      · wp_walk using it1
        exact ⟨_, rfl, r1⟩
      · wp_walk using it1
        exact ⟨_, rfl, r1⟩
    · wp_walk using it1
      exact ⟨_, rfl, r1⟩
section
variable {prog : Program} {w : World} {A : Around} {E : Value → Shared → Prop} {s : Shared}
/-- its two new objects: the iterator, the enumerate -/
theorem enum1_call {v : Value} {o : Obj} {G : Heap → Prop} {Q : Value → Shared → Prop} (B : Begins v o G) (g1 : G s.heap)
    (k : ∀ h', IsEnum h' (s.heap.objs.size + 1) s.heap.objs.size 0 .none → h'.get? s.heap.objs.size = some o →
      (∀ b o', s.heap.get? b = some o' → h'.get? b = some o') → Q (.ref (s.heap.objs.size + 1)) { s with heap := h' }) :
    wpAny (model prog w) A (call (.type "enumerate") [v]) Q E s := by
  refine callType_new F.called_enumerate (by decide) (F.typeCall_enumerate_1 _) (F.newCall_enumerate_1 _)
    (fun obj => F.args_object_init_2 obj _) F.entry_enumerate_new (enum1_meets B) ⟨g1, ?_⟩
  have sz : (s.heap.push o).objs.size = s.heap.objs.size + 1 := Heap.size_push ..
  show _ ∧ _
  rw [sz]
  generalize hx : ({ cls := .type "enumerate", data := .fields #[.none, .bool false, .ref s.heap.objs.size, rawInt 0, .none, .none] } : Obj) = x
  have hxf : x.isFreed = false := by rw [← hx]; rfl
  have at1 : ((s.heap.push o).push x).get? (s.heap.objs.size + 1) = some x := by
    have z := Heap.get?_push_size (s.heap.push o) (o := x) hxf
    rwa [sz] at z
  have at0 : ((s.heap.push o).push x).get? s.heap.objs.size = some o := Heap.get?_push_of_some _ (Heap.get?_push_size _ B.free)
  have old : ∀ b o', s.heap.get? b = some o' → ((s.heap.push o).push x).get? b = some o' := fun b o' z => Heap.get?_push_of_some _ (Heap.get?_push_of_some _ z)
  subst hx
  exact ⟨⟨_, at1, rfl⟩, k _ at1 at0 old⟩
end
end PySem
namespace R
open PySem PySem.Spec PyProof.Rows L2
/-- enumerate of the tuple at a -/
def Itet (K : PySem.W.Frag) (a : Addr) : It where
  go := fun i H => ∃ (xs : List V) (x : V), SqT K H a xs ∧ xs[i]? = some x
  yld := fun i H v H' => ∃ T x, v = .ref T ∧ H T = none ∧ H' = upd H T (.tup [.int (i : Nat), x]) ∧ ∀ xs, SqT K H a xs → xs[i]? = some x
  stop := fun i H => ∃ xs : List V, SqT K H a xs ∧ xs.length ≤ i
theorem turn_enumT {P : Program} {w : World} {K : PySem.W.Frag} {elts : List Expr} {kk : Nat} {tpos : Pos} (a e it : Addr) :
    Turn P w K (.Tuple elts kk tpos) (Itet K a) [e, it] e (fun i h => (∃ old, IsEnum h e it ((i : Nat) : Int) old) ∧ h.IsTupleIter it a i ∧ e ≠ it ∧ a ≠ it ∧ e ≠ a) where
  mem := by simp
  obj := fun i h st b hb => by
    obtain ⟨⟨old, he⟩, ⟨o, ho, hc, hd⟩, _⟩ := st
    have e' : b = e ∨ b = it := by simpa using hb
    rcases e' with rfl | rfl
    · exact ⟨_, he, fun v q => nomatch q⟩
    · exact ⟨o, ho, fun v q => by rw [hd] at q; cases q⟩
  keep := fun i h h' st k => by
    obtain ⟨⟨old, he⟩, hi, n1, n2, n3⟩ := st
    exact ⟨⟨old, k e (by simp) _ he⟩, hi.at fun o q => k it (by simp) o q, n1, n2, n3⟩
  item := by
    intro X hP hw hK hc i pins s σ H E I hf st hg
    subst hP hw hK
    obtain ⟨⟨old, he⟩, hit, n1, n2, n3⟩ := st
    obtain ⟨xs, x, hq, hx⟩ := hg
    obtain ⟨its, rv, p, hz⟩ := I.tuple hq
    have p' : s.heap.IsTuple a its.toArray := p
    have hel : e < s.heap.objs.size := Heap.lt_size he
    have hil : it < s.heap.objs.size := by obtain ⟨_, q, _⟩ := hit; exact Heap.lt_size q
    have hlt : i < its.toArray.size := by
      have := (List.getElem?_eq_some_iff.mp hx).1
      have := rv.length
      simp; omega
    have hh : X.A.in1.handled = none := I.ok.hd hc
    refine wpAny_pyNext_enum_itemD (Draws.tuple hh it a n2 its.toArray) he ⟨hit, p'⟩ hlt n1 (by simp [n1, n3]) fun u h' tk hu ho st' hT hsz hk => ?_
    refine ⟨_, rfl, wpAny_letOwnedTupleGo_enum (s := { s with heap := h', toks := tk + 1 }) ho fun h'' he' sb => ?_⟩
    have hu' : its[i]? = some u := by simpa using hu
    obtain ⟨u2, hu2, ru⟩ := rv.get hx
    have eu : u2 = u := Option.some.inj (hu2.symm.trans hu')
    subst eu
    have hT2 : h''.get? s.heap.objs.size = some { cls := .type "tuple", data := .seq #[.int i tk, u2] } := (sb.2 _ (Nat.ne_of_gt hel)).trans hT
    have new : ObjOk X.prog X.w (upd H s.heap.objs.size (.tup [.int (i : Nat), x])) h'' s.heap.objs.size (.tup [.int (i : Nat), x]) :=
      ⟨by show 2 ≤ sizeLine; decide, [.int i tk, u2], .cons ⟨_, rfl⟩ (.cons ru .nil), ⟨_, hT2, rfl, _, rfl⟩⟩
    have far : ∀ b ob, b ∉ [e, it] → s.heap.get? b = some ob → h''.get? b = some ob := fun b ob hb q => by
      have b1 : b ≠ e := fun z => hb (by simp [z])
      have b2 : b ≠ it := fun z => hb (by simp [z])
      exact (sb.2 b b1).trans (hk b ob b1 b2 q)
    have I1 : Inv X pins σ (upd H s.heap.objs.size (.tup [.int (i : Nat), x])) { s with heap := h'', toks := tk + 1 } :=
      I.turnedNew (ch := [e, it]) far hf (Nat.le_refl _) new
    refine ⟨.ref s.heap.objs.size, _, I1, rfl, ⟨_, x, rfl, I.hok.fresh (Nat.le_refl _), rfl, fun ys hy => by rw [I.tuple_inj hy hq]; exact hx⟩, ⟨⟨u2, ?_⟩, st'.1.at fun o q => (sb.2 it (Ne.symm n1)).trans q, n1, n2, n3⟩, fun b hb => ?_⟩
    · have e1 : ((i + 1 : Nat) : Int) = (i : Int) + 1 := by omega
      rw [e1]; exact he'
    · have hb' : b < s.heap.objs.size := by
        have e' : b = e ∨ b = it := by simpa using hb
        rcases e' with rfl | rfl
        · exact hel
        · exact hil
      rw [upd_ne (Nat.ne_of_lt hb')]
      exact (hf b hb).1
  done := by
    intro X hP hw hK hc i pins s σ H E I hf st hg
    subst hP hw hK
    obtain ⟨⟨old, he⟩, hit, n1, n2, n3⟩ := st
    obtain ⟨xs, hq, hx⟩ := hg
    obtain ⟨its, rv, p, hz⟩ := I.tuple hq
    have hh : X.A.in1.handled = none := I.ok.hd hc
    have hl := rv.length
    have p' : s.heap.IsTuple a its.toArray := p
    have hT : s.TypeIs (.ref e) "enumerate" := ⟨_, he, rfl⟩
    obtain ⟨f0, f1, f2, f3, f4, f5⟩ := hf it (by simp)
    have none_left : its.toArray[i]? = none := by simp; omega
    unfold pyNext
    refine wpAny_bind (wpAny_attempt (wpAny_callSpecial?_slot (name := Str.ofString "__next__") hT PySem.F.slot_enumerate_next
      (wpAny_call_entry PySem.F.slot_enumerate_next hT PySem.F.entry_enumerate_next ?_ (PySem.F.args_enumerate_next_1 _))))
    show wpAny _ _ (field (.ref e) 2 >>= _) _ _ _
    refine wpAny_bind (wpAny_field he rfl (x := .ref it) rfl ?_)
    refine wpAny_bind (wpAny_nextOf_tuple_end hh hit p' none_left fun h' x eb hx' => ?_)
    obtain ⟨o, ho, hc'⟩ := hx'
    refine wpAny_bind (wpAny_isInstance (T := "StopIteration") (b := true) ⟨o, ho, hc'⟩ isSubtype_stop ?_)
    exact wpAny_pure ⟨rfl, I.turned (t' := s.toks) (fun b o hb q => eb b o hb q) f0 f1 f3 f4 f5⟩
  self := fun A i s Q E st h => by
    obtain ⟨⟨_, he⟩, _⟩ := st
    exact wpAny_pyIter_enum he h
/-! things that may be lists or tuples -/
def SeqA (H : Hp) (a : Addr) (xs : List V) : Prop := H a = some (.lst xs) ∨ H a = some (.tup xs)
section
variable {X : Cx} (K : PySem.W.Frag)
def gSeq (K : PySem.W.Frag) (n : Nat) (t : TGs) : TG := fun v σ H Q => ∃ a xs, v = .ref a ∧ SeqA H a xs ∧ xs.length = n ∧ t xs σ H Q
theorem kgSeq {es : List Expr} {k : Nat} {t : TGs} {n : Nat} {pos : Pos} (hc : X.calm = true) (h : PGs X es t)
    (hn : (assignEach es X.env).length = n := by rfl) (hst : (assignEach es X.env).findIdx? (·.1) = none := by rfl) (e : X.K = K := by rfl) : PG X (.Tuple es k pos) (gSeq K n t) := by
  refine ⟨fun pins s σ H v u Q I r hw => ?_⟩
  obtain ⟨a, xs, e1, hq, hl, hw⟩ := hw
  rcases hq with hq | hq
  · exact (pg_lst hc h hn hst).run pins s σ H v u Q I r ⟨a, xs, e1, SqL.of hq, hl, hw⟩
  · exact (pg_tup hc h hn hst).run pins s σ H v u Q I r ⟨a, xs, e1, SqT.of hq, hl, hw⟩
theorem kgTup {es : List Expr} {k : Nat} {t : TGs} {n : Nat} {pos : Pos} (hc : X.calm = true) (h : PGs X es t)
    (hn : (assignEach es X.env).length = n := by rfl) (hst : (assignEach es X.env).findIdx? (·.1) = none := by rfl) (e : X.K = K := by rfl) : PG X (.Tuple es k pos) (gTup K n t) := e ▸ pg_tup hc h hn hst
def rIxA (K : PySem.W.Frag) : R2 := fun x y H Q => ∃ p xs i v, x = .ref p ∧ y = .int i ∧ SeqA H p xs ∧ atI xs i = some v ∧ Q v H
theorem kIxA (h : X.K = K := by rfl) : IxR X (rIxA K) := by
  have z : IxR X (rIx X.K) := ix_seq
  intro value slice pins s σ H x y v u Q I rx ry h0 hs
  obtain ⟨p, xs, i, w, e1, e2, hq, ha, q⟩ := h0
  rcases hq with hq | hq
  · exact z value slice pins s σ H x y v u Q I rx ry (.inl ⟨p, xs, i, w, e1, e2, SqL.of hq, ha, q⟩) hs
  · exact z value slice pins s σ H x y v u Q I rx ry (.inr (.inl ⟨p, xs, i, w, e1, e2, SqT.of hq, ha, q⟩)) hs
/-- a walk over a list or a tuple -/
def iSeq (K : PySem.W.Frag) (tl : TE) : TI := fun σ H R => tl σ H fun x H1 => ∃ a xs, x = .ref a ∧ ((H1 a = some (.lst xs) ∧ R (Itl K a) H1) ∨ (H1 a = some (.tup xs) ∧ R (Itt K a) H1))
theorem kiSeq {tg l : Expr} {tl : TE} (hl : PE X l tl) (h : X.K = K := by rfl) : PI X tg l (iSeq K tl) := by
  subst h
  refine ⟨fun pins s σ H R I h => ?_⟩
  refine thn (hl.run pins s σ H _ I h) fun v s1 hv => ?_
  obtain ⟨x, H1, I1, r1, a, xs, rfl, q⟩ := hv
  cases r1
  have own : ∀ b ∈ [s1.heap.objs.size], FpOk X pins H1 b := fun b hb => by
    obtain rfl : b = s1.heap.objs.size := by simpa using hb
    exact I1.fpOk (Nat.le_refl _) (I1.hok.fresh (Nat.le_refl _))
  rcases q with ⟨hq, q⟩ | ⟨hq, q⟩
  · obtain ⟨its, rv, p, hz⟩ := I1.list (SqL.of hq)
    refine wpAny_pyIter_list p.isList ?_
    exact ⟨s1.heap.objs.size, [s1.heap.objs.size], _, _, H1, rfl, I1.kept (t' := s1.toks) fun b o e => Heap.get?_push_of_some _ e, turn_list a _, ⟨_, Heap.get?_push_size _ rfl, rfl, rfl⟩, own, q⟩
  · obtain ⟨its, rv, p, hz⟩ := I1.tuple (SqT.of hq)
    refine wpAny_pyIter_tuple (show s1.heap.IsTuple a its.toArray from p) ?_
    exact ⟨s1.heap.objs.size, [s1.heap.objs.size], _, _, H1, rfl, I1.kept (t' := s1.toks) fun b o e => Heap.get?_push_of_some _ e, turn_tuple a _, ⟨_, Heap.get?_push_size _ rfl, rfl, rfl⟩, own, q⟩
/-- enumerate of a list or a tuple -/
def iEnumA (K : PySem.W.Frag) (ta : TA) : TI := fun σ H R => ta σ H fun vs H1 => ∃ a xs, vs = [.ref a] ∧ ((H1 a = some (.lst xs) ∧ R (Ite K a) H1) ∨ (H1 a = some (.tup xs) ∧ R (Itet K a) H1))
theorem kiEnum {e : Expr} {ta : TA} {p pos tpos : Pos} {elts : List Expr} {kk : Nat} (hg : Gl X "enumerate") (hm : X.mg "enumerate" = none) (ha : PA X [e] ta)
    (hs : starEach [e] X.env = [(false, eval e X.env)] := by rfl) (h : X.K = K := by rfl) : PI X (.Tuple elts kk tpos) (.Call (.Name "enumerate" p) [e] [] pos) (iEnumA K ta) := by
  subst h
  refine ⟨fun pins s σ H R I h => ?_⟩
  refine Call_ (ld_blt I hg hm boot_enumerate (PyProof.Rows.callWith_type1 (thn (ha.run pos pins s σ H _ I h) fun us s1 hv => ?_) hs rfl))
  obtain ⟨vs, H1, I1, r1, a, xs, rfl, q⟩ := hv
  cases r1 with
  | cons r rr =>
    cases rr
    cases r
    have own : ∀ b ∈ [s1.heap.objs.size + 1, s1.heap.objs.size], FpOk X pins H1 b := fun b hb => by
      have e' : b = s1.heap.objs.size + 1 ∨ b = s1.heap.objs.size := by simpa using hb
      have hle : s1.heap.objs.size ≤ b := by
        rcases e' with z | z
        · rw [z]; exact Nat.le_add_right _ _
        · rw [z]; exact Nat.le_refl _
      exact I1.fpOk hle (I1.hok.fresh hle)
    rcases q with ⟨hq, q⟩ | ⟨hq, q⟩
    · obtain ⟨its, rv, p', hz⟩ := I1.list (SqL.of hq)
      refine call_enumerate_list p'.isList fun h' he hit hsz hk => wpAny_pyIter_enum he ?_
      have I2 : Inv X pins σ H1 { s1 with heap := h' } := I1.kept (t' := s1.toks) hk
      exact ⟨s1.heap.objs.size + 1, [s1.heap.objs.size + 1, s1.heap.objs.size], _, _, H1, rfl, I2, turn_enum a (s1.heap.objs.size + 1) s1.heap.objs.size, ⟨⟨.none, he⟩, hit, Nat.succ_ne_self _⟩, own, q⟩
    · obtain ⟨its, rv, p', hz⟩ := I1.tuple (SqT.of hq)
      have ht : s1.heap.IsTuple a its.toArray := p'
      have hal : a < s1.heap.objs.size := by obtain ⟨o, ho, _⟩ := ht; exact Heap.lt_size ho
      refine enum1_call (begins_tuple a its.toArray) ht fun h' he hit hk => wpAny_pyIter_enum he ?_
      have I2 : Inv X pins σ H1 { s1 with heap := h' } := I1.kept (t' := s1.toks) hk
      exact ⟨s1.heap.objs.size + 1, [s1.heap.objs.size + 1, s1.heap.objs.size], _, _, H1, rfl, I2, turn_enumT a (s1.heap.objs.size + 1) s1.heap.objs.size, ⟨⟨.none, he⟩, ⟨_, hit, rfl, rfl⟩, Nat.succ_ne_self _, Nat.ne_of_lt hal, Nat.ne_of_gt (Nat.lt_succ_of_lt hal)⟩, own, q⟩
end
theorem walk_enumT {K : PySem.W.Frag} {a : Addr} {xs : List V} : Walk (Itet K a) xs.length (fun H => SqT K H a xs) (YPair (fun i => some (.int (i : Nat))) (fun i => xs[i]?)) := by
  refine ⟨fun i _ hi q => ⟨xs, xs[i], q, by simp [hi]⟩, fun _ q => ⟨xs, q, Nat.le_refl _⟩, fun i H v H' _ q y => ?_⟩
  obtain ⟨T, x, h1, h2, h3, h4⟩ := y
  exact ⟨T, .int (i : Nat), x, h1, h2, h3, rfl, h4 xs q⟩
section
variable {σ : L2.St} {H : Hp} {te : TE} {ar : TA} {K : PySem.W.Frag} {i : Int} {v : V} {a p : Addr} {xs : List V} {Q : VK} {QS : L2.St → Hp → Prop}
theorem gseq {n : Nat} {tg : TGs} (h : SeqA H a xs) (e : xs.length = n) (q : tg xs σ H QS) : gSeq K n tg (.ref a) σ H QS := ⟨a, xs, rfl, h, e, q⟩
theorem ixA (h : SeqA H p xs) (e : atI xs i = some v) (q : Q v H) : rIxA K (.ref p) (.int i) H Q := ⟨p, xs, i, v, rfl, rfl, h, e, q⟩
theorem lenA (h : SeqA H p xs) (q : Q (.int xs.length) H) : rLenS K [.ref p] H Q := by
  rcases h with h | h
  · exact lenL h q
  · exact lenT (SqT.of h) q
theorem tupA (h : SeqA H p xs) (h1 : ∀ l, H l = none → Q (.ref l) (upd H l (.tup xs))) (h2 : H p = some (.tup xs) → Q (.ref p) H) : rTupS K [.ref p] H Q := by
  rcases h with h | h
  · exact tupL h h1
  · exact tupT (SqT.of h) (h2 h)
theorem itseq {R : It → Hp → Prop} (q : te σ H fun x H1 => ∃ a xs, x = .ref a ∧ ((H1 a = some (.lst xs) ∧ R (Itl K a) H1) ∨ (H1 a = some (.tup xs) ∧ R (Itt K a) H1))) : iSeq K te σ H R := q
theorem itenum {R : It → Hp → Prop} (q : ar σ H fun vs H1 => ∃ a xs, vs = [.ref a] ∧ ((H1 a = some (.lst xs) ∧ R (Ite K a) H1) ∨ (H1 a = some (.tup xs) ∧ R (Itet K a) H1))) : iEnumA K ar σ H R := q
theorem SeqA.same {H H' : Hp} (s : Same H H') (h : SeqA H a xs) : SeqA H' a xs := h.elim (fun z => .inl (s _ _ z)) (fun z => .inr (s _ _ z))
theorem SeqA.new {o : HO} (h : SeqA H a xs) (n : H p = none) : SeqA (upd H p o) a xs := SeqA.same (same_new (Same.refl H) n) h
/-- a for over enumerate of either -/
theorem for_enum {g : TG} {tb : TS} {D : Ends} {σ : L2.St} {H : Hp} (h : SeqA H a xs) (Pv : Nat → L2.St → Hp → Prop) (h0 : Pv 0 σ H) (hG : ∀ i σ' H', i ≤ xs.length → Pv i σ' H' → ∀ o, H a = some o → H' a = some o)
    (hs : ∀ i x σ' H' T, xs[i]? = some x → Pv i σ' H' → H' T = none → g (.ref T) σ' (upd H' T (.tup [.int (i : Nat), x])) fun σ2 H2 => tb { D with nx := Pv (i + 1), ct := Pv (i + 1), bk := D.nx } σ2 H2)
    (hd : ∀ σ' H', Pv xs.length σ' H' → D.nx σ' H') : ∃ a' xs', [V.ref a] = [.ref a'] ∧ ((H a' = some (.lst xs') ∧ ForW (Ite K a') g tb D σ H) ∨ (H a' = some (.tup xs') ∧ ForW (Itet K a') g tb D σ H)) := by
  rcases h with h | h
  · refine ⟨a, xs, rfl, .inl ⟨h, ?_⟩⟩
    refine for_it (walk_enum (K := K) (a := a) (xs := xs)) Pv h0 (fun i σ' H' hi hp => SqL.of (hG i σ' H' hi hp _ h)) ?_ hd
    rintro i x σ' H' H2 hi hp ⟨T, x1, x2, rfl, hT, rfl, e1, e2⟩
    cases e1
    exact hs i x2 σ' H' T e2 hp hT
  · refine ⟨a, xs, rfl, .inr ⟨h, ?_⟩⟩
    refine for_it (walk_enumT (K := K) (a := a) (xs := xs)) Pv h0 (fun i σ' H' hi hp => SqT.of (hG i σ' H' hi hp _ h)) ?_ hd
    rintro i x σ' H' H2 hi hp ⟨T, x1, x2, rfl, hT, rfl, e1, e2⟩
    cases e1
    exact hs i x2 σ' H' T e2 hp hT
/-- a comprehension over either -/
theorem lc_seq {g : TG} {tt : TT} {te : TE} {ws : List Nat} {σ : L2.St} {H : Hp} {QQ : VK} (h : SeqA H a xs) (Pv : Addr → Nat → Hp → Prop) (h0 : ∀ D, H D = none → Pv D 0 (upd H D (.lst []))) (hG : ∀ D i H', i ≤ xs.length → Pv D i H' → ∀ o, H a = some o → H' a = some o)
    (hs : ∀ D i x H', H D = none → xs[i]? = some x → Pv D i H' → g x (wipe σ ws) H' fun σ2 H2 => wipe σ2 ws = wipe σ ws ∧ tt σ2 H2 fun b H3 => if b = true then te σ2 H3 fun y H4 => ∃ acc, H4 D = some (.lst acc) ∧ acc.length < sizeLine ∧ Pv D (i + 1) (upd H4 D (.lst (acc ++ [y]))) else Pv D (i + 1) H3)
    (hd : ∀ D H', H D = none → Pv D xs.length H' → QQ (.ref D) H') :
    ∃ a' xs', V.ref a = .ref a' ∧ ((H a' = some (.lst xs') ∧ ∀ D, H D = none → LcW (Itl K a') g tt te ws σ H D QQ) ∨ (H a' = some (.tup xs') ∧ ∀ D, H D = none → LcW (Itt K a') g tt te ws σ H D QQ)) := by
  rcases h with h | h
  · refine ⟨a, xs, rfl, .inl ⟨h, fun D hD => ?_⟩⟩
    refine lc_it (walk_list (K := K) (a := a) (xs := xs)) (Pv D) (h0 D hD) (fun i H' hi hp => SqL.of (hG D i H' hi hp _ h)) ?_ (fun H' hp => hd D H' hD hp)
    rintro i x H' H2 hi hp ⟨rfl, e⟩
    exact hs D i x H2 hD e hp
  · refine ⟨a, xs, rfl, .inr ⟨h, fun D hD => ?_⟩⟩
    refine lc_it (walk_tup (K := K) (a := a) (xs := xs)) (Pv D) (h0 D hD) (fun i H' hi hp => SqT.of (hG D i H' hi hp _ h)) ?_ (fun H' hp => hd D H' hD hp)
    rintro i x H' H2 hi hp ⟨rfl, e⟩
    exact hs D i x H2 hD e hp
end
section
variable {Q : VK} {H : Hp} {A B : Prop}
theorem bT {b : Bool} (h : b = true) (q : Q (.bl true) H) : Q (.bl b) H := h ▸ q
theorem b_ {b c : Bool} (h : b = c) (q : Q (.bl c) H) : Q (.bl b) H := h ▸ q
/-- a test whose answer is a Bool -/
theorem itB {b : Bool} (h1 : b = true → A) (h2 : b = false → B) : if b = true then A else B := by
  cases b with
  | true => exact h1 rfl
  | false => exact h2 rfl
theorem itBn {b : Bool} (h1 : b = false → A) (h2 : b = true → B) : if (!b) = true then A else B := by
  cases b with
  | true => exact h2 rfl
  | false => exact h1 rfl
theorem itP {b : Bool} : True := trivial
end
/-! dicts whose keys are texts -/
section
variable {σ : L2.St} {H : Hp} {td ty tv : TE} {d : Addr} {kvs : List (Key × V)} {z : Str} {v : V} {Q : VK} {D : Ends}
theorem dnew (q : ∀ p, H p = none → Q (.ref p) (upd H p (.dK []))) : tDNewK σ H Q := q
theorem din_ (q : ty σ H fun y H1 => td σ H1 fun x H2 => ∃ a o, x = .ref a ∧ DGet H2 a y o ∧ Q (.bl o.isSome) H2) : tDIn ty td σ H Q := q
theorem din {QO : Option V → Prop} (h : H d = some (.dK kvs)) (q : QO (valV kvs (Sum.inr z : Key))) : ∃ a o, V.ref d = .ref a ∧ DGet H a (.str z) o ∧ QO o :=
  ⟨d, valV kvs (Sum.inr z : Key), rfl, DGet.k (k := (Sum.inr z : Key)) h, q⟩
theorem dput_ (q : tv σ H fun v H1 => td σ H1 fun x H2 => ty σ H2 fun y H3 => ∃ a H4, x = .ref a ∧ DPut H3 a y v H4 ∧ D.nx σ H4) : sDPut td ty tv D σ H := q
theorem dput {QH : Hp → Prop} (h : H d = some (.dK kvs)) (hl : kvs.length < sizeLine) (q : QH (upd H d (.dK (putK kvs (Sum.inr z : Key) v)))) : ∃ a H4, V.ref d = .ref a ∧ DPut H a (.str z) v H4 ∧ QH H4 :=
  ⟨d, _, rfl, DPut.k (k := (Sum.inr z : Key)) h hl, q⟩
def wordKs (ws : List Str) : List (Key × V) := ws.map fun w => ((Sum.inr w : Key), V.bl true)
theorem wordKs_in (z : Str) : ∀ ws : List Str, (valV (wordKs ws) (Sum.inr z : Key)).isSome = decide (z ∈ ws)
  | [] => rfl
  | w :: ws => by
    have ih := wordKs_in z ws
    unfold wordKs at ih ⊢
    rw [List.map_cons]
    by_cases h : w = z
    · rw [valV_pos (by rw [h])]
      simp [h]
    · rw [valV_neg (fun q => h (Sum.inr.inj q)), ih]
      have h' : z ≠ w := fun q => h q.symm
      simp [h']
theorem wordKs_put (z : Str) (ws : List Str) (h : z ∉ ws) : putK (wordKs ws) (Sum.inr z : Key) (.bl true) = wordKs (ws ++ [z]) := by
  have e := wordKs_in z ws
  rw [decide_eq_false h] at e
  have e' : valV (wordKs ws) (Sum.inr z : Key) = none := by
    cases q : valV (wordKs ws) (Sum.inr z : Key) with
    | none => rfl
    | some v => rw [q] at e; cases e
  rw [putK_new _ e']
  unfold wordKs
  rw [List.map_append]
  rfl
end
section
variable {X : Cx} (K : PySem.W.Frag)
theorem kFldS {st : Stmt} {ta tv : TE} {f : Str} (hp : PS X st (sFld X.K ta tv f)) (h : X.K = K := by rfl) : PS X st (sFld K ta tv f) := h ▸ hp
end
section
variable {σ : L2.St} {H : Hp} {ta tv tk te : TE} {D : Ends} {K : PySem.W.Frag} {f : Str} {Q : VK}
theorem sfld (q : tv σ H fun y H1 => ta σ H1 fun x H2 => ∃ a C dx fs, x = .ref a ∧ H2 a = some (.ins C dx fs) ∧ Cls K C ∧ NoAttr K C f ∧ fs.length < 1000 ∧ D.nx σ (upd H2 a (.ins C dx (putF f y fs)))) : sFld K ta tv f D σ H := q
theorem sfldE {QH : Hp → Prop} {x C dx : Addr} {fs : List (Str × V)} {y : V} {H2 : Hp} (h : H2 x = some (.ins C dx fs)) (c : Cls K C) (n : NoAttr K C f) (l : fs.length < 1000) (q : QH (upd H2 x (.ins C dx (putF f y fs)))) :
    ∃ a C dx fs, V.ref x = .ref a ∧ H2 a = some (.ins C dx fs) ∧ Cls K C ∧ NoAttr K C f ∧ fs.length < 1000 ∧ QH (upd H2 a (.ins C dx (putF f y fs))) := ⟨x, C, dx, fs, rfl, h, c, n, l, q⟩
theorem fld_ (q : ta σ H fun x H1 => ∃ a C dx fs v, x = .ref a ∧ H1 a = some (.ins C dx fs) ∧ Cls K C ∧ NoAttr K C f ∧ fs.lookup f = some v ∧ Q v H1) : tFld K ta f σ H Q := q
theorem fldE {QV : V → Prop} {x C dx : Addr} {fs : List (Str × V)} {v : V} (h : H x = some (.ins C dx fs)) (c : Cls K C) (n : NoAttr K C f) (l : fs.lookup f = some v) (q : QV v) :
    ∃ a C dx fs v, V.ref x = .ref a ∧ H a = some (.ins C dx fs) ∧ Cls K C ∧ NoAttr K C f ∧ fs.lookup f = some v ∧ QV v := ⟨x, C, dx, fs, v, rfl, h, c, n, l, q⟩
/-- the turns of a dict comprehension whose dict is at D -/
def DcW (J : It) (g : TG) (tt : TT) (tk tv : TE) (vs : List Nat) (σ : L2.St) (H1 : Hp) (D : Addr) (Q : VK) : Prop :=
  ∃ W : Nat → Nat → Hp → Prop, (∃ m, W 0 m (upd H1 D (.dK []))) ∧
    ∀ i m H, W i m H → (J.stop i H ∧ Q (.ref D) H) ∨
      (J.go i H ∧ ∃ Nx : Hp → Prop, (∀ H', Nx H' → ∃ m', m' < m ∧ W (i + 1) m' H') ∧
        ∀ x H', J.yld i H x H' → g x (wipe σ vs) H' fun σ2 H2 => wipe σ2 vs = wipe σ vs ∧
          tt σ2 H2 fun b H3 => if b = true then tk σ2 H3 fun y H4 => tv σ2 H4 fun z H5 => ∃ kvs k, y = kV k ∧ H5 D = some (.dK kvs) ∧ kvs.length < sizeLine ∧ Nx (upd H5 D (.dK (putK kvs k z))) else Nx H3)
theorem dc {wi : TI} {g : TG} {tt : TT} {vs : List Nat} (q : wi σ H fun J H1 => ∀ D, H1 D = none → DcW J g tt tk tv vs σ H1 D Q) : tDc wi g tt tk tv vs σ H Q := q
end
section
variable {σ : L2.St} {H : Hp} {td ty : TE} {d : Addr} {kvs : List (Key × V)} {z : Str} {Q : VK} {K : PySem.W.Frag}
theorem dget1_ (q : td σ H fun x H1 => ∃ a, x = .ref a ∧ IsD H1 a ∧ ty σ H1 fun y H2 => ∃ o, DGet H2 a y o ∧ Q (o.getD .non) H2) : tDGet1 td ty σ H Q := q
theorem dgetE {QA : Addr → Prop} (h : H d = some (.dK kvs)) (q : QA d) : ∃ a, V.ref d = .ref a ∧ IsD H a ∧ QA a := ⟨d, rfl, .inl ⟨kvs, .inl h⟩, q⟩
theorem dgetO {QO : Option V → Prop} (h : H d = some (.dK kvs)) (q : QO (valV kvs (Sum.inr z : Key))) : ∃ o, DGet H d (.str z) o ∧ QO o := ⟨_, DGet.k (k := (Sum.inr z : Key)) h, q⟩
/-- two tuples joined: some tuple of both -/
theorem catA {a b : Addr} {xs ys : List V} (h1 : SqT K H a xs) (h2 : SqT K H b ys) (hz : xs.length + ys.length ≤ sizeLine) (q : ∀ p H', Same H H' → SqT K H' p (xs ++ ys) → Q (.ref p) H') : rCatA K (.ref a) (.ref b) H Q := by
  refine ⟨a, b, xs, ys, rfl, rfl, h1, h2, hz, fun e => ?_, fun _ e => ?_, fun _ _ p hp => ?_⟩
  · subst e; exact q b H (Same.refl H) h2
  · subst e; exact q a H (Same.refl H) (by rw [List.append_nil]; exact h1)
  · exact q p _ (same_new (Same.refl H) hp) (SqT.of upd_same)
end
end R
end
section
set_option Elab.async false
set_option linter.all false
set_option maxRecDepth 100000
set_option maxHeartbeats 4000000
/-! further steps -/
namespace R
open PySem L2 SX C8
section
variable {X : Cx} (K : PySem.W.Frag)
theorem kSum (hc : X.calm = true := by rfl) (h : X.K = K := by rfl) : CallR X (.builtin "sum") (rSum K) := h ▸ cr_sum hc
theorem kAny (hc : X.calm = true := by rfl) (h : X.K = K := by rfl) : CallR X (.builtin "any") (rAny K) := h ▸ cr_any hc
theorem kRevL {e : Expr} {te : TE} {k : Nat} {p1 p2 p3 pos : Pos} (he : PE X e te) (h : X.K = K := by rfl) : PE X (.Subscript e (.Slice none none (some (.UnaryOp .USub (.Constant (.int 1) k p1) p2)) p3) pos) (tRevL K te) := h ▸ pe_revL he
end
section
variable {σ : L2.St} {H : Hp} {td ty te : TE} {d p : Addr} {kvs : List (Key × V)} {z : Str} {v : V} {Q : VK} {K : PySem.W.Frag} {xs : List V} {A B : Prop}
theorem sum_ {ns : List Int} (h : H p = some (.lst (ns.map V.int))) (q : Q (.int ns.sum) H) : rSum K [.ref p] H Q := ⟨p, ns, rfl, SqL.of h, q⟩
theorem any_ {bs : List Bool} (h : H p = some (.lst (bs.map V.bl))) (q : Q (.bl (bs.any id)) H) : rAny K [.ref p] H Q := ⟨p, bs, rfl, SqL.of h, q⟩
theorem dget_ (q : td σ H fun x H1 => ty σ H1 fun y H2 => ∃ a v, x = .ref a ∧ DGet H2 a y (some v) ∧ Q v H2) : tDGet td ty σ H Q := q
theorem dgetS {QV : V → Prop} (h : H d = some (.dK kvs)) (e : valV kvs (Sum.inr z : Key) = some v) (q : QV v) : ∃ a v, V.ref d = .ref a ∧ DGet H a (.str z) (some v) ∧ QV v :=
  ⟨d, v, rfl, e ▸ DGet.k (k := (Sum.inr z : Key)) h, q⟩
theorem revL_ (q : te σ H fun x H1 => ∃ a xs, x = .ref a ∧ SqL K H1 a xs ∧ ∀ p, H1 p = none → Q (.ref p) (upd H1 p (.lst xs.reverse))) : tRevL K te σ H Q := q
theorem slLN {lo hi : Option Int} (h : H p = some (.lst xs)) (q : ∀ a H', Same H H' → H a = none → H' a = some (.lst (cutV xs lo hi)) → Q (.ref a) H') : rSlL K (.ref p) lo hi H Q :=
  ⟨p, xs, rfl, SqL.of h, fun a ha => q a _ (same_new (Same.refl H) ha) ha upd_same⟩
theorem catL {a b : Addr} {ys : List V} (h1 : H a = some (.lst xs)) (h2 : H b = some (.lst ys)) (hz : xs.length + ys.length ≤ sizeLine) (q : ∀ p, H p = none → Q (.ref p) (upd H p (.lst (xs ++ ys)))) : rCat (.ref a) (.ref b) H Q :=
  ⟨a, b, xs, ys, rfl, rfl, h1, h2, hz, q⟩
theorem itboth {b : Bool} (h1 : A) (h2 : B) : if b = true then A else B := by cases b with | true => exact h1 | false => exact h2
end
section
variable {σ : L2.St} {H : Hp} {te : TE} {tl th : TO} {Q : VK} {QO : Option Int → Hp → Prop} {j : Int}
theorem sl_ {r : V → Option Int → Option Int → Hp → VK → Prop} (q : te σ H fun x H1 => tl σ H1 fun l H2 => th σ H2 fun u H3 => r x l u H3 Q) : tSl r te tl th σ H Q := q
theorem np_ (q : QO none H) : tNoPart σ H QO := q
theorem pt_ (q : te σ H fun x H1 => ∃ i, x = .int i ∧ QO (some i) H1) : tPart te σ H QO := q
theorem ptE {B : Int → Prop} (q : B j) : ∃ i, V.int j = .int i ∧ B i := ⟨j, rfl, q⟩
theorem disp {trs : List (TE × TE)} (q : ∀ p, H p = none → tPairs trs σ (upd H p (.dK [])) fun ps H2 => H2 p = some (.dK []) ∧ ∃ kvs : List (Key × V), ps = kvs.map (fun kv => (kV kv.1, kv.2)) ∧ kvs.length ≤ 15 ∧ Q (.ref p) (upd H2 p (.dK (mergeK [] kvs)))) : tDisp trs σ H Q := q
end
theorem brk {D : Ends} {σ : L2.St} {H : Hp} (q : D.bk σ H) : tBreak D σ H := q
theorem meth_ {C : Addr} {m : Str} {sp : Sp} {dvs : List V} {E : XK} {σ : L2.St} {H : Hp} {ta : TE} {t : TA} {Q : VK} (q : ta σ H fun x H1 => ∃ a dx fs, x = .ref a ∧ H1 a = some (.ins C dx fs) ∧ fs.lookup m = none ∧ t σ H1 fun vs H2 => sp (x :: (vs ++ dvs)) H2 Q E) : tMeth C m sp dvs E ta t σ H Q := q
@[elab_as_elim] theorem gen {C : Hp → Prop} {H : Hp} {p : Addr} {o : HO} (n : H p = none) (q : ∀ H', Same H H' → H' p = some o → C H') : C (upd H p o) := q _ (same_new (Same.refl H) n) upd_same
@[elab_as_elim] theorem genP {C : Hp → Prop} {H : Hp} {p : Addr} {o : HO} (q : ∀ H', SameBut p H H' → H' p = some o → C H') : C (upd H p o) := q _ SameBut.refl.put upd_same
theorem cut_to (xs : List V) {j : Int} (h0 : 0 ≤ j) : cutV xs none (some j) = xs.take j.toNat := by
  unfold cutV
  have e0 : HT.sIx xs.length 0 none = 0 := rfl
  have e1 : HT.sIx xs.length xs.length (some j) = min j.toNat xs.length := by
    show (if j < 0 then (j + (xs.length : Int)).toNat else min j.toNat xs.length) = _
    rw [if_neg (by omega)]
  rw [e0, e1, List.drop_zero, Nat.sub_zero]
  rw [← List.take_take, List.take_length]
theorem cut_from (xs : List V) {j : Int} (h0 : 0 ≤ j) : cutV xs (some j) none = xs.drop j.toNat := by
  unfold cutV
  have e0 : HT.sIx xs.length xs.length none = xs.length := rfl
  have e1 : HT.sIx xs.length 0 (some j) = min j.toNat xs.length := by
    show (if j < 0 then (j + (xs.length : Int)).toNat else min j.toNat xs.length) = _
    rw [if_neg (by omega)]
  rw [e0, e1]
  by_cases h : j.toNat ≤ xs.length
  · rw [Nat.min_eq_left h]; exact List.take_of_length_le (by rw [List.length_drop]; omega)
  · rw [Nat.min_eq_right (by omega), Nat.sub_self, List.take_zero, List.drop_of_length_le (by omega)]
theorem cut_mid (xs : List V) {i j : Int} (h0 : 0 ≤ i) (h1 : i ≤ j) : cutV xs (some i) (some j) = (xs.drop i.toNat).take (j - i).toNat := by
  unfold cutV
  have e0 : HT.sIx xs.length xs.length (some j) = min j.toNat xs.length := by
    show (if j < 0 then (j + (xs.length : Int)).toNat else min j.toNat xs.length) = _
    rw [if_neg (by omega)]
  have e1 : HT.sIx xs.length 0 (some i) = min i.toNat xs.length := by
    show (if i < 0 then (i + (xs.length : Int)).toNat else min i.toNat xs.length) = _
    rw [if_neg (by omega)]
  rw [e0, e1]
  by_cases h : i.toNat ≤ xs.length
  · rw [Nat.min_eq_left h]
    by_cases g : j.toNat ≤ xs.length
    · rw [Nat.min_eq_left g]; congr 1; omega
    · rw [Nat.min_eq_right (by omega), List.take_of_length_le (by rw [List.length_drop]; omega), List.take_of_length_le (by rw [List.length_drop]; omega)]
  · have q : min i.toNat xs.length = xs.length := by omega
    rw [q, List.drop_of_length_le (Nat.le_refl xs.length), List.drop_of_length_le (show xs.length ≤ i.toNat by omega), List.take_nil, List.take_nil]
def rIntB : List V → Hp → VK → Prop := fun xs H Q => ∃ k, xs = [.bl k] ∧ Q (.int (if k then 1 else 0)) H
theorem cIntB {X : Cx} : CallR X (.type "int") rIntB := fun pins s σ H xs us Q I r h => call_int1 pins s σ H xs us Q I r (.inr h)
theorem intB {H : Hp} {Q : VK} {b : Bool} (q : Q (.int (if b = true then 1 else 0)) H) : rIntB [.bl b] H Q := ⟨b, rfl, q⟩
section
variable {σ : L2.St} {H : Hp} {td ty tx te : TE} {d : Addr} {kvs : List (Key × V)} {n : Int} {v : V} {Q : VK} {D : Ends} {k : Nat} {tc : TT} {tb : TS}
theorem dget2_ (q : td σ H fun x H1 => ∃ a, x = .ref a ∧ IsD H1 a ∧ ty σ H1 fun y H2 => tx σ H2 fun z H3 => ∃ o, DGet H3 a y o ∧ Q (o.getD z) H3) : tDGet2 td ty tx σ H Q := q
theorem dgetOI {QO : Option V → Prop} (h : H d = some (.dK kvs)) (q : QO (valV kvs (Sum.inl n : Key))) : ∃ o, DGet H d (.int n) o ∧ QO o := ⟨_, DGet.k (k := (Sum.inl n : Key)) h, q⟩
theorem dgetI {QV : V → Prop} (h : H d = some (.dK kvs)) (e : valV kvs (Sum.inl n : Key) = some v) (q : QV v) : ∃ a v, V.ref d = .ref a ∧ DGet H a (.int n) (some v) ∧ QV v :=
  ⟨d, v, rfl, e ▸ DGet.k (k := (Sum.inl n : Key)) h, q⟩
theorem dinI {QO : Option V → Prop} (h : H d = some (.dK kvs)) (q : QO (valV kvs (Sum.inl n : Key))) : ∃ a o, V.ref d = .ref a ∧ DGet H a (.int n) o ∧ QO o :=
  ⟨d, _, rfl, DGet.k (k := (Sum.inl n : Key)) h, q⟩
theorem dputI {QH : Hp → Prop} (h : H d = some (.dK kvs)) (hl : kvs.length < sizeLine) (q : QH (upd H d (.dK (putK kvs (Sum.inl n : Key) v)))) : ∃ a H4, V.ref d = .ref a ∧ DPut H a (.int n) v H4 ∧ QH H4 :=
  ⟨d, _, rfl, DPut.k (k := (Sum.inl n : Key)) h hl, q⟩
theorem aug_ {ti : TIp} {x : V} (h : σ[k]? = some (some x)) (q : te σ H fun y H1 => ti x y H1 fun z H2 => D.nx (σ.set k (some z)) H2) : tAug k te ti D σ H := ⟨x, h, q⟩
theorem ipI_ {f : Int → Int → Int} {i j : Int} (q : Q (.int (f i j)) H) : ipI f (.int i) (.int j) H Q := ⟨i, j, rfl, rfl, q⟩
theorem divmod_ {i j : Int} (h : 0 < j) (h2 : j < 1073741824) (q : ∀ p, H p = none → Q (.ref p) (upd H p (.tup [.int (i / j), .int (i % j)]))) : ∃ i' j', [V.int i, .int j] = [.int i', .int j'] ∧ CDiv i' j' ∧ ∀ p, H p = none → Q (.ref p) (upd H p (.tup [.int (i' / j'), .int (i' % j')])) := ⟨i, j, rfl, ⟨h, h2⟩, q⟩
end
theorem rng2 {σ : L2.St} {H : Hp} {ar : TA} {R : It → Hp → Prop} (q : ar σ H fun vs H1 => ∃ i j : Int, vs = [.int i, .int j] ∧ (-(2 ^ 62) ≤ i ∧ i < 2 ^ 62 ∧ -(2 ^ 62) ≤ j ∧ j < 2 ^ 62) ∧ R (Itr i (j - i).toNat) H1) : iRng2 ar σ H R := q
theorem rngE2 {i j : Int} {B : Int → Int → Prop} (h : -(2 ^ 62) ≤ i ∧ i < 2 ^ 62 ∧ -(2 ^ 62) ≤ j ∧ j < 2 ^ 62) (q : B i j) : ∃ i' j' : Int, [V.int i, .int j] = [.int i', .int j'] ∧ (-(2 ^ 62) ≤ i' ∧ i' < 2 ^ 62 ∧ -(2 ^ 62) ≤ j' ∧ j' < 2 ^ 62) ∧ B i' j' := ⟨i, j, rfl, h, q⟩
/-- the dict of a drawn system's two lists -/
def rowsKs (s m : Addr) : List (Key × V) := [(Sum.inr (Str.ofString "simple"), .ref s), (Sum.inr (Str.ofString "multipliers"), .ref m)]
theorem rowsS (s m : Addr) : valV (rowsKs s m) (Sum.inr (Str.ofString "simple") : Key) = some (.ref s) := valV_pos rfl
theorem rowsM (s m : Addr) : valV (rowsKs s m) (Sum.inr (Str.ofString "multipliers") : Key) = some (.ref m) := by
  unfold rowsKs
  rw [valV_neg (show ¬ ((Sum.inr (Str.ofString "simple") : Key) = Sum.inr (Str.ofString "multipliers")) by decide)]
  exact valV_pos rfl
theorem rowsMerge (s m : Addr) : mergeK [] (rowsKs s m) = rowsKs s m := by
  unfold rowsKs
  rfl
end R
end
section
set_option Elab.async false
set_option linter.all false
set_option maxRecDepth 100000
set_option maxHeartbeats 4000000
set_option pp.maxSteps 1500
set_option pp.deepTerms false
namespace PySem
theorem ext_list_tup (l : Addr) (items : Array Value) (n : Nat) (b : Addr) (items2 : Array Value) (n2 : Nat) (dct : Option Addr) (sl : Array (Option Value)) (hs0 : ¬(!items.isEmpty && Builtin.List.listTooLong (items.size + items2.size)) = true) (hs1 : items.size ≤ sizeLine) (hs2 : items.size + items2.size ≤ sizeLine + 1 := by seq_fits) :
    Meets (Builtin.«list.extend» ⟨[.ref l, .ref b], []⟩) (fun _ R s => s.heap.get? l = some { cls := .type "list", dict := none, data := .seq items n, slots := #[] } ∧ s.heap.get? b = some { cls := .type "tuple", dict := dct, data := .seq items2 n2, slots := sl } ∧ R (.ok (.ret Value.none)) { s with heap := s.heap.update l (Obj.mapSeq fun x => x ++ items2), toks := s.toks }) :=
  .of_wp fun prog w A R s h => by
    obtain ⟨hp, g, d, tk, os⟩ := s; obtain ⟨hl, hb, h⟩ := h; have f1 := AutoSeq1.idx_int; have f2 := AutoSeq1.sub_tuple_tuple; have f3 := AutoSeq1.sub_list_list; have f4 := AutoSeq1.sub_tuple_list; have f5 := AutoSeq1.sub_list_tuple;
    have hz' : (items ++ items2).size ≤ sizeLine + 1 := by rw [Array.size_append]; exact hs2
    wp_walk using (wpAny_updateSeq hl rfl (hz := hs1) (_hz' := hz')), AutoSeq1.wpAny_loadPart' hl, AutoSeq1.wpAny_loadPart' hb; exact ⟨_, rfl, h⟩
end PySem
namespace R
open PySem L2 SX C8 PySem.Spec PyProof.Rows PyProof
/-- min(xs, default=d) of a list of ints -/
def rMinD (K : PySem.W.Frag) : List V → List V → Hp → VK → Prop := fun xs zs H Q => ∃ (a : Addr) (ns : List Int) (d : V), xs = [.ref a] ∧ zs = [d] ∧ SqL K H a (ns.map V.int) ∧ (ns = [] → Q d H) ∧ ∀ m, m ∈ ns → (∀ y, y ∈ ns → m ≤ y) → Q (.int m) H
theorem kMinD {X : Cx} (K : PySem.W.Frag) (hc : X.calm = true := by rfl) (hK : X.K = K := by rfl) : CallRK X (.builtin "min") [Str.ofString "default"] (rMinD K) := by
  subst hK
  intro pins s σ H xs zs us ws Q I r rz h
  obtain ⟨a, ns, d, rfl, rfl, hs, h0, q⟩ := h
  obtain ⟨its, rv, hl, _⟩ := I.list hs
  rw [Vals.ref1 r]
  obtain ⟨w, rfl, rw'⟩ := vals1 rz
  obtain ⟨ys, e⟩ := rv.ints.allInts.items
  have hn : numsOf (intItems ys).toList = ns := by rw [← e]; exact rv.ints.numsOf
  rw [nums_intItems] at hn
  subst hn
  have hl' := hl.isList
  rw [e] at hl'
  refine PySem.call_min_walkD (PySem.W.iter_listW (A := X.A.in1) (I.ok.hd hc) hl' fun s₂ e2 W st hfp hw hk => ?_)
  refine ⟨_, _, _, _, _, _, _, s.heap, (fun i j => decide (numAt ys i < numAt ys j)), rfl, W, st, hfp, hw, hk, fun hz s' m => ?_, fun hp => ⟨?_, fun v s' hP m => ?_⟩⟩
  · obtain ⟨h', tk, rfl, hk'⟩ := PySem.W.moved_old e2 rfl m
    have z : ys = #[] := by
      have : ys.size = 0 := by simpa [intItems] using hz
      exact Array.eq_empty_of_size_eq_zero this
    subst z
    exact ⟨d, H, I.kept hk', rw', h0 rfl⟩
  · intro i j vi vj s' Q' E' _ hi hj hq
    exact CmpOf.ints_lt (numAt ys) (fun _ _ => intItems_at) i j vi vj s' Q' E' hi hj hq
  · obtain ⟨h', tk, rfl, hk'⟩ := PySem.W.moved_old e2 rfl m
    have hsz : 0 < ys.size := by simpa [intItems] using hp
    have hP' : (intItems ys)[argBest (fun i j => decide (numAt ys i < numAt ys j)) (ys.size - 1)]? = some v := by simpa [intItems] using hP
    obtain ⟨t, rfl⟩ := intItems_at hP'
    obtain ⟨h1, h2⟩ := argBest_lt (numAt ys) (ys.size - 1)
    refine ⟨.int _, H, I.kept hk', ⟨_, rfl⟩, q _ ?_ fun y hy => ?_⟩
    · rw [numAt_eq]; exact PySem.getD_mem (by rw [List.length_map, Array.length_toList]; omega)
    · obtain ⟨j, hj, rfl⟩ := mem_getD hy
      rw [List.length_map, Array.length_toList] at hj
      rw [← numAt_eq]; exact h2 j (by omega)
theorem minD {K : PySem.W.Frag} {H : Hp} {a : Addr} {ns : List Int} {d : V} {Q : VK} (h : H a = some (.lst (ns.map V.int))) (h0 : ns = [] → Q d H) (q : ∀ m, m ∈ ns → (∀ y, y ∈ ns → m ≤ y) → Q (.int m) H) : rMinD K [.ref a] [d] H Q := ⟨a, ns, d, rfl, rfl, SqL.of h, h0, q⟩
end R
namespace R
open PySem L2 SX C8 PySem.Spec PyProof.Rows PyProof
/-- the inner turns of a comprehension of two loops -/
def LcI (J1 : It) (g1 : TG) (tt1 : TT) (te : TE) (vs1 : List Nat) (σ2 : L2.St) (H4 : Hp) (D : Addr) (Nx : Hp → Prop) : Prop :=
  ∃ W1 : Nat → Nat → Hp → Prop, (∃ m, W1 0 m H4) ∧ ∀ j k H, W1 j k H →
      (J1.stop j H ∧ Nx H) ∨ (J1.go j H ∧ ∃ Nx1 : Hp → Prop, (∀ H', Nx1 H' → ∃ k', k' < k ∧ W1 (j + 1) k' H') ∧ ∀ x H', J1.yld j H x H' → g1 x (wipe σ2 vs1) H' fun σ3 H5 => wipe σ3 vs1 = wipe σ2 vs1 ∧ tt1 σ3 H5 fun b H6 =>
        if b = true then te σ3 H6 fun y H7 => ∃ acc, H7 D = some (.lst acc) ∧ acc.length < sizeLine ∧ Nx1 (upd H7 D (.lst (acc ++ [y]))) else Nx1 H6)
/-- its outer ones -/
def LcO (J : It) (g : TG) (tt : TT) (wi1 : TI) (g1 : TG) (tt1 : TT) (te : TE) (vs vs1 : List Nat) (σ : L2.St) (H1 : Hp) (D : Addr) (Q : VK) : Prop :=
  ∃ W : Nat → Nat → Hp → Prop, (∃ m, W 0 m (upd H1 D (.lst []))) ∧ ∀ i m H, W i m H →
  (J.stop i H ∧ Q (.ref D) H) ∨ (J.go i H ∧ ∃ Nx : Hp → Prop, (∀ H', Nx H' → ∃ m', m' < m ∧ W (i + 1) m' H') ∧ ∀ x H', J.yld i H x H' → g x (wipe σ vs) H' fun σ2 H2 => wipe σ2 vs = wipe σ vs ∧ tt σ2 H2 fun b H3 =>
    if b = true then wi1 σ2 H3 fun J1 H4 => LcI J1 g1 tt1 te vs1 σ2 H4 D Nx else Nx H3)
section
variable {wi wi1 : TI} {g g1 : TG} {tt tt1 : TT} {te : TE} {vs vs1 : List Nat} {σ : L2.St} {H : Hp} {Q : VK}
theorem lc2 (q : wi σ H fun J H1 => ∀ D, H1 D = none → LcO J g tt wi1 g1 tt1 te vs vs1 σ H1 D Q) : tLc2 wi g tt wi1 g1 tt1 te vs vs1 σ H Q := q
theorem lc2_it {J : It} {n : Nat} {G : Hp → Prop} {Y : Nat → Hp → V → Hp → Prop} (w : Walk J n G Y) {H1 : Hp} {D : Addr} (Pv : Nat → Hp → Prop) (h0 : Pv 0 (upd H1 D (.lst []))) (hG : ∀ i H, i ≤ n → Pv i H → G H)
    (hs : ∀ i x H H', i < n → Pv i H → Y i H x H' → g x (wipe σ vs) H' fun σ2 H2 => wipe σ2 vs = wipe σ vs ∧ tt σ2 H2 fun b H3 =>
      if b = true then wi1 σ2 H3 fun J1 H4 => LcI J1 g1 tt1 te vs1 σ2 H4 D (Pv (i + 1)) else Pv (i + 1) H3) (hd : ∀ H, Pv n H → Q (.ref D) H) : LcO J g tt wi1 g1 tt1 te vs vs1 σ H1 D Q := by
  refine ⟨fun i m H => m = n - i ∧ i ≤ n ∧ Pv i H, ⟨n, by simp, Nat.zero_le _, h0⟩, ?_⟩
  rintro i m H ⟨rfl, hi, p⟩
  have q := hG i H hi p
  by_cases hlt : i < n
  · refine .inr ⟨w.goes i H hlt q, Pv (i + 1), fun H' p' => ⟨n - (i + 1), by omega, rfl, hlt, p'⟩, fun x H' y => hs i x H H' hlt p (w.yields i H x H' hlt q y)⟩
  · have e : i = n := by omega
    subst e
    exact .inl ⟨w.stops H q, hd H p⟩
theorem lci_it {J1 : It} {n : Nat} {G : Hp → Prop} {Y : Nat → Hp → V → Hp → Prop} (w : Walk J1 n G Y) {H4 : Hp} {D : Addr} {Nx : Hp → Prop} (Pv : Nat → Hp → Prop) (h0 : Pv 0 H4) (hG : ∀ i H, i ≤ n → Pv i H → G H)
    (hs : ∀ i x H H', i < n → Pv i H → Y i H x H' → g1 x (wipe σ vs1) H' fun σ3 H2 => wipe σ3 vs1 = wipe σ vs1 ∧ tt1 σ3 H2 fun b H3 =>
      if b = true then te σ3 H3 fun y H4 => ∃ acc, H4 D = some (.lst acc) ∧ acc.length < sizeLine ∧ Pv (i + 1) (upd H4 D (.lst (acc ++ [y]))) else Pv (i + 1) H3) (hd : ∀ H, Pv n H → Nx H) : LcI J1 g1 tt1 te vs1 σ H4 D Nx := by
  refine ⟨fun i m H => m = n - i ∧ i ≤ n ∧ Pv i H, ⟨n, by simp, Nat.zero_le _, h0⟩, ?_⟩
  rintro i m H ⟨rfl, hi, p⟩
  have q := hG i H hi p
  by_cases hlt : i < n
  · refine .inr ⟨w.goes i H hlt q, Pv (i + 1), fun H' p' => ⟨n - (i + 1), by omega, rfl, hlt, p'⟩, fun x H' y => hs i x H H' hlt p (w.yields i H x H' hlt q y)⟩
  · have e : i = n := by omega
    subst e
    exact .inl ⟨w.stops H q, hd H p⟩
end
/-- a built-in function called with keywords -/
theorem ckw {r : List V → List V → Hp → VK → Prop} {ar tk : TA} {σ : L2.St} {H : Hp} {Q : VK} (q : ar σ H fun vs H1 => tk σ H1 fun zs H2 => r vs zs H2 Q) : tCKw r ar tk σ H Q := q
theorem dsetd {td ty tx : TE} {σ : L2.St} {H : Hp} {Q : VK} (q : td σ H fun x H1 => ∃ a, x = .ref a ∧ IsD H1 a ∧ ty σ H1 fun y H2 => tx σ H2 fun z H3 => ∃ (kvs : List (Key × V)) (k : Key), H3 a = some (.dK kvs) ∧ y = kV k ∧ kvs.length < sizeLine ∧
  (∀ v, valV kvs k = some v → Q v H3) ∧ (valV kvs k = none → Q z (upd H3 a (.dK (putK kvs k z))))) : tDSetd td ty tx σ H Q := q
theorem dnotin_ {td ty : TE} {σ : L2.St} {H : Hp} {Q : VK} (q : ty σ H fun y H1 => td σ H1 fun x H2 => ∃ a o, x = .ref a ∧ DGet H2 a y o ∧ Q (.bl (!o.isSome)) H2) : tDNotIn ty td σ H Q := q
theorem kiRev {X : Cx} {tg e : Expr} {ta : TA} {p pos : Pos} (K : PySem.W.Frag) (hg : Gl X "reversed") (hm : X.mg "reversed" = none) (ha : PA X [e] ta) (hs : starEach [e] X.env = [(false, eval e X.env)] := by rfl) (h : X.K = K := by rfl) : PI X tg (.Call (.Name "reversed" p) [e] [] pos) (iRev K ta) := h ▸ pi_reversed hg hm ha hs
theorem itrev {K : PySem.W.Frag} {ta : TA} {σ : L2.St} {H : Hp} {R : It → Hp → Prop} (q : ta σ H fun vs H1 => ∃ (a : Addr) (xs : List V), vs = [.ref a] ∧ SqL K H1 a xs ∧ R (Itv K a xs.length) H1) : iRev K ta σ H R := q
/-- xs.extend(t), t a tuple -/
def rExtT (K : PySem.W.Frag) : V → List V → Hp → VK → Prop := fun x vs H Q => ∃ l b xs zs, x = .ref l ∧ vs = [.ref b] ∧ H l = some (.lst xs) ∧ SqT K H b zs ∧ xs.length + zs.length ≤ sizeLine ∧ Q .non (upd H l (.lst (xs ++ zs)))
theorem mt_extendT {X : Cx} : MtM X "list.extend" (rExtT X.K) := by
  intro pins s σ H x vs v us Q I rx rv h
  obtain ⟨l, b, xs, zs, rfl, rfl, hH, hB, hz, q⟩ := h
  cases rx
  obtain ⟨u, rfl, ru⟩ := rv.one
  cases ru
  obtain ⟨z, its, n, r, hl, e⟩ := I.lstM hH
  obtain ⟨its2, r2, p2, hz2⟩ := I.tuple hB
  have hl2 := r2.length
  obtain ⟨o2, e2, hc2, n2, hd2⟩ := (show s.heap.IsTuple b its2.toArray from p2)
  obtain ⟨c2, dct, dat, sl⟩ := o2
  dsimp only at hc2 hd2
  subst hc2 hd2
  have hsz : its.toArray.size + its2.toArray.size ≤ sizeLine := by rw [List.size_toArray, List.size_toArray]; omega
  have hlong : ¬ (!its.toArray.isEmpty && Builtin.List.listTooLong (its.toArray.size + its2.toArray.size)) = true := by
    rw [notLongL hsz, Bool.and_false]
    exact Bool.false_ne_true
  refine call_meets PySem.F.slot_list_extend ⟨_, e, rfl⟩ PySem.F.entry_list_extend (PySem.F.args_list_extend_2 _ _)
    (PySem.ext_list_tup l its.toArray n b its2.toArray n2 dct sl hlong (by rw [List.size_toArray]; omega) (by omega)) ⟨e, e2, ?_⟩
  refine ⟨.non, _, I.lset (its' := its ++ its2) hH e (by simp) (r.append r2) ?_, rfl, q⟩
  rw [List.length_append]
  omega
theorem kExtT {X : Cx} (K : PySem.W.Frag) (h : X.K = K := by rfl) : MtM X "list.extend" (rExtT K) := h ▸ mt_extendT
theorem extT {K : PySem.W.Frag} {H : Hp} {l b : Addr} {xs zs : List V} {Q : VK} (h1 : H l = some (.lst xs)) (h2 : H b = some (.tup zs)) (hz : xs.length + zs.length ≤ sizeLine) (q : Q .non (upd H l (.lst (xs ++ zs)))) : rExtT K (.ref l) [.ref b] H Q := ⟨l, b, xs, zs, rfl, rfl, h1, SqT.of h2, hz, q⟩
theorem kNotT (K : PySem.W.Frag) {X : Cx} {a : Expr} {pos : Pos} {ta : TE} (ha : PE X a ta) (h : X.K = K := by rfl) : PE X (.UnaryOp .Not a pos) (tNotT K ta) := h ▸ pe_notT ha
theorem notTt {K : PySem.W.Frag} {ta : TE} {σ : L2.St} {H : Hp} {Q : VK} (q : ta σ H fun x H1 => ∃ k, TruV K x H1 k ∧ Q (.bl (!k)) H1) : tNotT K ta σ H Q := q
theorem truL' {K : PySem.W.Frag} {H : Hp} {a : Addr} {xs : List V} {QB : Bool → Prop} (h : H a = some (.lst xs)) (q : QB (!xs.isEmpty)) : ∃ k, TruV K (.ref a) H k ∧ QB k := ⟨_, .inl ⟨xs, SqL.of h, rfl⟩, q⟩
theorem par {i j : Nat} {ta : TA} {D : Ends} {σ : L2.St} {H : Hp} (q : ta σ H fun vs H1 => ∃ v w, vs = [v, w] ∧ D.nx ((σ.set i (some v)).set j (some w)) H1) : tPar i j ta D σ H := q
theorem parE {v w : V} {P : V → V → Prop} (q : P v w) : ∃ v' w', [v, w] = [v', w'] ∧ P v' w' := ⟨v, w, rfl, q⟩
end R
end
section
set_option Elab.async false
set_option linter.all false
set_option maxRecDepth 100000
set_option maxHeartbeats 4000000
set_option pp.maxSteps 1500
set_option pp.deepTerms false
local macro_rules | `(tactic| walk_at "ne") => `(tactic| first
  | assumption | (apply Ne.symm; assumption)
  | exact R.ne_new (by assumption) | exact (R.ne_new (by assumption)).symm
  | exact L2.ne_of_none (by assumption) (by assumption) | exact (L2.ne_of_none (by assumption) (by assumption)).symm
  | exact L2.ne_of_none (by assumption) (R.free_new (by assumption)) | exact (L2.ne_of_none (by assumption) (R.free_new (by assumption))).symm)
local macro_rules | `(tactic| walk_at "at") => `(tactic| first
  | assumption | exact L2.upd_same
  | (refine R.sb (H := ?H) (p := ?p) ?e ?n ?h; (case e => assumption); (case n => walk_at "ne"); (case h => walk_at "at"))
  | (refine R.sm (H := ?H) ?e ?h; (case e => assumption); (case h => walk_at "at"))
  | (refine Eq.trans (L2.upd_ne ?_) ?_ <;> first | walk_at "ne" | walk_at "at"))
local macro_rules | `(tactic| walk_at "sqt") => `(tactic| first | assumption | (refine L2.SqT.of ?_; walk_at "at"))
local macro_rules | `(tactic| walk_at "ty") => `(tactic| first | exact R.tyN | exact R.tyB | exact R.tyI | exact R.tyS | (refine R.tyT (xs := ?xs) ?h; case h => walk_at "at") | (refine R.tyL (xs := ?xs) ?h; case h => walk_at "at"))
local macro_rules | `(tactic| walk_at "kit") => `(tactic| first | exact R.kit_NoneType_tuple | exact R.kit_NoneType_list | exact R.kit_NoneType_bool | exact R.kit_NoneType_str | exact R.kit_NoneType_int | exact R.kit_bool_tuple | exact R.kit_bool_list | exact R.kit_bool_bool | exact R.kit_bool_str | exact R.kit_bool_int | exact R.kit_int_tuple | exact R.kit_int_list | exact R.kit_int_bool | exact R.kit_int_str | exact R.kit_int_int | exact R.kit_str_tuple | exact R.kit_str_list | exact R.kit_str_bool | exact R.kit_str_str | exact R.kit_str_int | exact R.kit_tuple_tuple | exact R.kit_tuple_list | exact R.kit_tuple_bool | exact R.kit_tuple_str | exact R.kit_tuple_int | exact R.kit_list_tuple | exact R.kit_list_list | exact R.kit_list_bool | exact R.kit_list_str | exact R.kit_list_int)
local macro_rules | `(tactic| walk_at "sz") => `(tactic| first | assumption | (refine Nat.le_trans ?_ (show 1000 ≤ PySem.sizeLine by decide); omega) | decide)
local macro_rules | `(tactic| walk_at "szl") => `(tactic| first | assumption | exact Nat.le_of_lt (L2.small1000 (by omega)) | decide | decide +kernel)
local macro_rules | `(tactic| walk_at "sys") => `(tactic| first | assumption | exact KN.SysAt.same (by assumption) (by assumption))
local macro_rules | `(tactic| walk_at "dk") => `(tactic| first | exact R.rowsS _ _ | exact R.rowsM _ _)
local macro_rules | `(tactic| walk_at "sqa") => `(tactic| first | assumption | exact R.SeqA.same (by assumption) (by assumption) | exact R.SeqA.new (by assumption) (by assumption) | (exact Or.inl (by walk_at "at")) | (exact Or.inr (by walk_at "at")))
local macro_rules | `(tactic| walk_at "ix") => `(tactic| first | rfl | (exact L2.atI_nat (by assumption)) | assumption)
local macro_rules | `(tactic| walk_at "cond") => `(tactic| first
  | exact Or.inl (by decide) | exact Or.inr (by decide) | exact Or.inl ⟨by omega, by omega⟩ | exact Or.inr ⟨by omega, by omega⟩
  | (constructor <;> omega) | (show _ ≠ _; omega) | decide | omega)
local macro_rules | `(tactic| walk_at "r1") => `(tactic| first
  | with_reducible refine R.seq ?_ | with_reducible refine R.asg ?_ | with_reducible refine R.ifs ?_ | with_reducible refine R.ret ?_ | with_reducible refine R.retN ?_ | with_reducible refine R.drop ?_ | with_reducible refine R.next ?_
  | with_reducible refine R.op ?_ | ((with_reducible refine R.var (v := ?v) ?h ?q); case h => rfl) | with_reducible refine R.c ?_ | with_reducible refine R.tst ?_ | with_reducible refine R.tb_ ?_ | with_reducible refine R.ex ?_
  | with_reducible refine R.i0 ?_ | with_reducible refine R.eqI ?_ | with_reducible refine R.neI ?_ | ((with_reducible refine R.ic ?_ ?_); · walk_at "cond") | with_reducible refine R.u0 ?_ | with_reducible refine R.un ?_
  | ((with_reducible refine R.eq ?_ ?_); · rfl) | ((with_reducible refine R.ne ?_ ?_); · rfl)
  | with_reducible refine R.and_ ?_ | with_reducible refine R.or_ ?_ | with_reducible refine R.not_ ?_ | with_reducible refine R.ife ?_ | with_reducible refine R.chain ?_
  | with_reducible refine R.cons ?_ | with_reducible refine R.nil ?_ | with_reducible refine R.call ?_ | with_reducible refine R.cb ?_ | with_reducible refine R.bm ?_
  | with_reducible refine R.gname ?_ | with_reducible refine R.gsub ?_ | with_reducible refine R.gnil ?_ | with_reducible refine R.gcons ?_ | with_reducible refine R.yes ?_
  | with_reducible refine R.int1 ?_ | ((with_reducible refine R.lenL (xs := ?xs) ?h ?q); case h => walk_at "at")
  | ((with_reducible refine R.ixL (xs := ?xs) (v := ?v) ?h ?e ?q); (case h => walk_at "at"); (case e => walk_at "ix"))
  | ((with_reducible refine R.setL (xs := ?xs) (n := ?n) ?h ?e ?q); (case h => walk_at "at"); (case e => rfl))
  | ((with_reducible refine R.append (xs := ?xs) ?h ?e ?q); (case h => walk_at "at"); (case e => walk_at "cond"))
  | with_reducible refine R.is_ ?_ | with_reducible refine R.isnot ?_ | with_reducible refine R.andV ?_ | with_reducible refine R.orV ?_ | with_reducible refine R.notV ?_
  | ((with_reducible refine R.isi (s := ?s) (b := ?b) ?ty ?h ?q); (case ty => walk_at "ty"); (case h => walk_at "kit"))
  | ((with_reducible refine R.addS ?h ?q); (case h => walk_at "sz")) | with_reducible refine R.max2 ?_ | with_reducible refine R.min2 ?_
  | ((with_reducible refine R.lenStr ?h ?q); (case h => walk_at "szl")) | ((with_reducible refine R.ixS (n := ?n) ?h ?e ?q); (case h => walk_at "szl"); (case e => walk_at "ix"))
  | ((with_reducible refine R.tyl (xs := ?xs) ?h ?q); (case h => walk_at "at")) | with_reducible refine R.itlist ?_ | with_reducible refine R.ittup ?_ | with_reducible refine R.m1 ?_ | with_reducible refine R.m1s ?_ | with_reducible refine R.leS ?_ | with_reducible refine R.itstr ?_ | with_reducible refine R.itstrE ?_ | with_reducible refine R.lc ?_ | with_reducible refine R.lc2 ?_ | with_reducible refine R.ckw ?_ | with_reducible refine R.par ?_ | with_reducible refine R.parE ?_ | with_reducible refine R.itrev ?_ | with_reducible refine R.dsetd ?_ | with_reducible refine R.dnotin_ ?_ | with_reducible refine R.for_ ?_ | ((with_reducible refine R.all_ (bs := ?bs) ?h ?q); (case h => walk_at "at"))
  | with_reducible refine R.rng1 ?_ | ((with_reducible refine R.rngE ?h ?q); (case h => (constructor <;> omega)))
  | ((with_reducible refine R.lenT (xs := ?xs) ?h ?q); (case h => walk_at "sqt")) | ((with_reducible refine R.ixT (xs := ?xs) (v := ?v) ?h ?e ?q); (case h => walk_at "sqt"); (case e => walk_at "ix"))
  | ((refine R.itlE (xs := ?xs) ?h ?q); (case h => walk_at "at")) | ((refine R.ittE (xs := ?xs) ?h ?q); (case h => walk_at "at"))
  | ((refine R.gseq (xs := ?xs) ?h ?e ?q); (case h => walk_at "sqa"); (case e => rfl)) | ((refine R.ixA (xs := ?xs) (v := ?v) ?h ?e ?q); (case h => walk_at "sqa"); (case e => walk_at "ix")) | ((refine R.lenA (xs := ?xs) ?h ?q); (case h => walk_at "sqa"))
  | ((with_reducible refine R.gtup (xs := ?xs) ?h ?e ?q); (case h => walk_at "sqt"); (case e => rfl))
  | with_reducible refine R.din_ ?_ | with_reducible refine R.dput_ ?_
  | with_reducible refine R.dget2_ ?_ | ((with_reducible refine R.aug_ (x := ?x) ?h ?q); case h => rfl) | with_reducible refine R.ipI_ ?_
  | with_reducible refine R.rng2 ?_ | ((with_reducible refine R.rngE2 ?h ?q); (case h => (refine ⟨?_, ?_, ?_, ?_⟩ <;> omega)))
  | with_reducible refine R.brk ?_ | with_reducible refine R.intB ?_ | with_reducible refine R.meth_ ?_ | ((refine KN.methS (rs := ?rs) (ms := ?ms) ?h (fun _ _ _ _ => rfl) ?q); case h => walk_at "sys")
  | with_reducible refine R.sl_ ?_ | with_reducible refine R.np_ ?_ | with_reducible refine R.pt_ ?_ | with_reducible refine R.ptE ?_ | with_reducible refine R.dget_ ?_ | with_reducible refine R.revL_ ?_
  | ((refine R.dgetS (kvs := ?kvs) (v := ?v) ?h ?e ?q); (case h => walk_at "at"); (case e => walk_at "dk"))
  | with_reducible refine R.sfld ?_ | with_reducible refine R.fld_ ?_ | with_reducible refine R.dc ?_
  | with_reducible refine R.dget1_ ?_
  | with_reducible refine R.itseq ?_ | with_reducible refine R.itenum ?_
  | with_reducible refine R.itT ?_ | with_reducible refine R.itF ?_ | with_reducible refine R.itNT ?_ | with_reducible refine R.itNF ?_
  | (with_reducible refine R.tup ?_) | (with_reducible refine R.lst ?_))
local macro_rules | `(tactic| walk_at "rd") => `(tactic| (repeat (first | walk_at "r1" | (dsimp only [Int.reduceToNat, List.set_cons_succ, List.set_cons_zero, List.length_cons, List.length_nil, List.nil_append, List.cons_append, List.append_nil]))))
local macro_rules | `(tactic| walk_at "go") => `(tactic| (rw [R.start_eq]; dsimp only [R.startE, List.map_nil]; walk_at "rd"))
namespace KN
open PySem L2 SX C8 R
def top (i : Nat) : Stmt := PySem.Challenge.pw_sayonce_k22_how_many_are_said.main.body.getD i (.Pass ⟨0, 0, 0, 0⟩)
/-- no built-in that the program calls is the module's own -/
structure Zs (mg : Str → Option Value) : Prop where
  int : mg "int" = none
  len : mg "len" = none
  range : mg "range" = none
  isinstance : mg "isinstance" = none
  bool : mg "bool" = none
  str : mg "str" = none
  tuple : mg "tuple" = none
  list : mg "list" = none
  all : mg "all" = none
  max : mg "max" = none
  min : mg "min" = none
  enumerate : mg "enumerate" = none
  any : mg "any" = none
  sum : mg "sum" = none
  divmod : mg "divmod" = none
structure PoolAt (H : Hp) (p l : Addr) : Prop where
  ex : ∃ (cs : List Int) (i d s : Int), H p = some (.lst [.ref l, .int i, .int d, .int s]) ∧ H l = some (.lst (cs.map V.int)) ∧ (∀ c ∈ cs, 0 ≤ c) ∧ 0 ≤ i ∧ 0 ≤ d ∧ 0 ≤ s ∧ s < 2147483647
  ne : l ≠ p
def spPool (K : PySem.W.Frag) : Sp := fun vs H Q _ => ∃ (a : Addr) (ns : List Int), vs = [.ref a] ∧ SqL K H a (ns.map V.int) ∧ ns.length ≤ 63 ∧
  ∀ H' p l, Same H H' → H p = none → H l = none → PoolAt H' p l → Q (.ref p) H'
def spTake : Sp := fun vs H Q _ => ∃ (p l : Addr) (m : Int), vs = [.ref p, .int m] ∧ PoolAt H p l ∧ 1 ≤ m ∧ m ≤ 100000000 ∧
  ∀ H' d, SameBut p H H' → PoolAt H' p l → 0 ≤ d → d < m → Q (.int d) H'
section
variable {P : Program} {w : World} {K : PySem.W.Frag} {mg : Str → Option Value} {base : Heap}
abbrev sPool : Stmt := top 23
theorem scPool : FnScope ["script", "cell"] ["script"] (fnScope sPool) := ⟨rfl, rfl, rfl, by decide +kernel, rfl, by decide +kernel, by decide +kernel⟩
abbrev sTake : Stmt := top 24
theorem scTake : FnScope ["pool", "many", "digit", "cell", "mixed"] ["pool", "many"] (fnScope sTake) := ⟨rfl, rfl, rfl, by decide +kernel, rfl, by decide +kernel, by decide +kernel⟩
theorem atI_mid {xs : List V} {i : Int} {v : V} (h0 : 0 ≤ i) (h : xs[i.toNat]? = some v) : atI xs i = some v := at_of (by omega) h
theorem fmod_lt {a m : Int} (h : 0 < m) : 0 ≤ a.fmod m ∧ a.fmod m < m := ⟨Int.fmod_nonneg_of_pos a h, Int.fmod_lt_of_pos a h⟩
theorem fdiv_nn {a m : Int} (h0 : 0 ≤ a) (h : 0 < m) : 0 ≤ a.fdiv m := by
  rw [Int.fdiv_eq_ediv_of_nonneg _ (by omega)]; exact Int.ediv_nonneg h0 (by omega)
theorem fdiv_pos {a m : Int} (h0 : m ≤ a) (h : 0 < m) : 0 < a.fdiv m := by
  rw [Int.fdiv_eq_ediv_of_nonneg _ (by omega)]
  have := (Int.le_ediv_iff_mul_le h).mpr (show 1 * m ≤ a by omega)
  omega
/-- the digit of a pool that has one -/
def spTake0 : Sp := fun vs H Q _ => ∃ (p l : Addr) (m i d s : Int), vs = [.ref p, .int m] ∧ H p = some (.lst [.ref l, .int i, .int d, .int s]) ∧ 0 < d ∧ 1 ≤ m ∧ m ≤ 100000000 ∧
  Q (.int (d.fmod m)) (upd H p (.lst [.ref l, .int i, .int (d.fdiv m), .int s]))
theorem c_pool (Z : Zs mg) {f : Addr} {fd : FuncData} (F : Def K mg "_law_pool" sPool f fd) (b : Binds K fd ["script"] []) : Cal P w K mg base 1 "_law_pool" (spPool K) [] := by
  refine cal0 F b .nil scPool (fun vs H Q E h => ?_) (fun cdv A outer s H vs Q E hr h => ?_)
  · obtain ⟨a, ns, rfl, _⟩ := h
    rfl
  · obtain ⟨a, ns, rfl, hS, hlen, k⟩ := h
    refine ⟨_, pss_one (ps_ret (pe_lst (pa_cons (pe_lc (own := [("cell", 1)]) (g := gName 1) (tt := tYes) rfl scPool.nd (kiL K (pv 0)) (blkOk_by (own := [("cell", 1)]) (N := ["script", "cell"]) (sc := fnScope sPool) (by decide +kernel)) (fun _ _ _ _ _ => (pg_name (i := 1) scPool.nd rfl (Or.inl rfl))) (fun _ _ _ _ _ => pts_nil) (fun _ _ _ _ _ => pe_ifExp (pt_cmpR op_ge (pv 1) pe_int (nomark _)) (pe_op op_mul pe_int (pv 1)) (pe_op op_sub (pe_op op_mul (pe_un un_neg pe_int) (pv 1)) pe_int))) (pa_cons pe_int (pa_cons pe_int (pa_cons pe_int pa_nil)))))), ?_⟩
    walk_at "go"
    refine ⟨a, rfl, ⟨_, hS⟩, fun D hD => lc_list (K := K) (a := a) (xs := ns.map V.int) (fun i H' => Same H H' ∧ ∃ cs : List Int, cs.length = i ∧ H' D = some (.lst (cs.map V.int)) ∧ ∀ c ∈ cs, 0 ≤ c)
      ⟨same_new (Same.refl H) hD, [], rfl, upd_same, fun c h => nomatch h⟩ (fun i H' _ hP => hP.1.seq hS) ?_ ?_⟩
    · rintro i x H' hi ⟨s0, cs, hc, hDc, hpos⟩
      obtain ⟨u, rfl⟩ : ∃ u, x = V.int u := by
        rw [List.getElem?_map] at hi
        cases e : ns[i]? with
        | none => rw [e] at hi; cases hi
        | some u => rw [e] at hi; exact ⟨u, (Option.some.inj hi).symm⟩
      have hi63 : i < ns.length := by
        have q := (List.getElem?_eq_some_iff.mp hi).1
        rwa [List.length_map] at q
      have fin : ∀ c : Int, 0 ≤ c → ∃ acc, H' D = some (.lst acc) ∧ acc.length < sizeLine ∧ Same H (upd H' D (.lst (acc ++ [V.int c]))) ∧ ∃ cs : List Int, cs.length = i + 1 ∧ upd H' D (.lst (acc ++ [V.int c])) D = some (.lst (cs.map V.int)) ∧ ∀ c ∈ cs, 0 ≤ c := by
        intro c h0
        refine ⟨_, hDc, small1000 (by rw [List.length_map]; omega), same_put s0 hD, cs ++ [c], by simp [hc], by rw [upd_same, List.map_append]; rfl, fun e he => ?_⟩
        rcases List.mem_append.mp he with q | q
        · exact hpos e q
        · rw [List.mem_singleton.mp q]; exact h0
      refine R.gname ⟨rfl, ?_⟩
      walk_at "rd"
      refine it (fun h1 => ?_) (fun h1 => ?_)
      · walk_at "rd"
        exact fin _ (by omega)
      · walk_at "rd"
        exact fin _ (by omega)
    · rintro H' ⟨s0, cs, hc, hDc, hpos⟩
      walk_at "rd"
      refine ⟨by decide, fun p hp => ?_⟩
      have dp : D ≠ p := ne_of_none hDc hp
      exact k _ p D (same_new s0 hp) (s0.free hp) hD ⟨⟨cs, 0, 0, 17, upd_same, by rw [upd_ne dp]; exact hDc, hpos, by decide, by decide, by decide, by decide⟩, dp⟩
theorem c_take0 (Z : Zs mg) {f : Addr} {fd : FuncData} (F : Def K mg "_law_take" sTake f fd) (b : Binds K fd ["pool", "many"] []) : Cal P w K mg base 1 "_law_take" spTake0 [] := by
  refine cal0 F b .nil scTake (fun vs H Q E h => ?_) (fun cdv A outer s H vs Q E hr h => ?_)
  · obtain ⟨p, l, m, i, d, s, rfl, _⟩ := h
    rfl
  · obtain ⟨p, l, m, i, d, s, rfl, hp, hd, hm, hm2, k⟩ := h
    refine ⟨_, pss_cons (ps_if (pt_cmpR op_gt (pe_ix (kIxL K) (pv 0) pe_int (fun _ _ => rfl)) pe_int (nomark _))
        (pss_cons (ps_set (i := 2) scTake.nd rfl (Or.inl rfl) (pe_op op_modN (pe_callTy cInt (by rfl) Z.int (by decide +kernel) (pa_cons (pe_ix (kIxL K) (pv 0) pe_int (fun _ _ => rfl)) pa_nil)) (pv 1)))
      (pss_cons (ps_asg (pe_op op_fdivN (pe_ix (kIxL K) (pv 0) pe_int (fun _ _ => rfl)) (pv 1)) (pg_sub (pv 0) pe_int set_list))
      (pss_one (ps_ret (pv 2)))))
        (pss_nil))
      (pss_cons (ps_never)
      (pss_cons (ps_never)
      (pss_cons (ps_never)
      (pss_cons (ps_never)
      (pss_cons (ps_never)
      (pss_cons (ps_never)
      (pss_one (ps_never)))))))), ?_⟩
    walk_at "go"
    refine itY hd ?_
    walk_at "rd"
    exact k
theorem c_take (Z : Zs mg) {f : Addr} {fd : FuncData} (F : Def K mg "_law_take" sTake f fd) (b : Binds K fd ["pool", "many"] []) : Cal P w K mg base 2 "_law_take" spTake [] := by
  have c_take : Cal P w K mg base 1 "_law_take" spTake0 [] := c_take0 Z F b
  refine cal0 F b .nil scTake (fun vs H Q E h => ?_) (fun cdv A outer s H vs Q E hr h => ?_)
  · obtain ⟨p, l, m, rfl, _⟩ := h
    rfl
  · obtain ⟨p, l, m, rfl, ⟨⟨cs, i, d, s, hp, hl, hcs, hi, hd, hs, hs2⟩, hne⟩, hm, hm2, k⟩ := h
    refine ⟨_, pss_cons (ps_if (pt_cmpR op_gt (pe_ix (kIxL K) (pv 0) pe_int (fun _ _ => rfl)) pe_int (nomark _))
        (pss_cons (ps_set (i := 2) scTake.nd rfl (Or.inl rfl) (pe_op op_modN (pe_callTy cInt (by rfl) Z.int (by decide +kernel) (pa_cons (pe_ix (kIxL K) (pv 0) pe_int (fun _ _ => rfl)) pa_nil)) (pv 1)))
      (pss_cons (ps_asg (pe_op op_fdivN (pe_ix (kIxL K) (pv 0) pe_int (fun _ _ => rfl)) (pv 1)) (pg_sub (pv 0) pe_int set_list))
      (pss_one (ps_ret (pv 2)))))
        (pss_nil))
      (pss_cons (ps_set (i := 3) scTake.nd rfl (Or.inl rfl) pe_int)
      (pss_cut (ps_if (pt_cmpR op_lt (pe_ix (kIxL K) (pv 0) pe_int (fun _ _ => rfl)) (pe_callB (kLen K) (by rfl) Z.len PySem.boot_len (pa_cons (pe_ix (kIxL K) (pv 0) pe_int (fun _ _ => rfl)) pa_nil)) (nomark _))
        (pss_one (ps_set (i := 3) scTake.nd rfl (Or.inl rfl) (pe_ix (kIxL K) (pe_ix (kIxL K) (pv 0) pe_int (fun _ _ => rfl)) (pe_ix (kIxL K) (pv 0) pe_int (fun _ _ => rfl)) (fun _ _ => rfl))))
        (pss_nil))
      (pss_cons (ps_asg (pe_op op_add (pe_ix (kIxL K) (pv 0) pe_int (fun _ _ => rfl)) pe_int) (pg_sub (pv 0) pe_int set_list))
      (pss_cons (ps_if (pt_cmpR op_ge (pv 3) (pe_op op_pow pe_int pe_int) (nomark _))
        (pss_cons (ps_asg (pe_op op_fdivN (pv 3) pe_int) (pg_sub (pv 0) pe_int set_list))
      (pss_one (ps_ret (pe_c c_take hr (by omega) (by rfl) (pa_cons (pv 0) (pa_cons (pv 1) pa_nil))))))
        (pss_nil))
      (pss_cons (ps_asg (pe_op op_modN (pe_callTy cInt (by rfl) Z.int (by decide +kernel) (pa_cons (pe_op op_add (pe_op op_add (pe_op op_mul (pe_ix (kIxL K) (pv 0) pe_int (fun _ _ => rfl)) pe_int) (pe_op op_mul (pv 3) pe_int)) (pe_op op_mul (pe_ix (kIxL K) (pv 0) pe_int (fun _ _ => rfl)) pe_int)) pa_nil)) pe_int) (pg_sub (pv 0) pe_int set_list))
      (pss_cons (ps_set (i := 4) scTake.nd rfl (Or.inl rfl) (pe_op op_modN (pe_callTy cInt (by rfl) Z.int (by decide +kernel) (pa_cons (pe_op op_add (pe_op op_add (pe_op op_mul (pe_ix (kIxL K) (pv 0) pe_int (fun _ _ => rfl)) (pe_ix (kIxL K) (pv 0) pe_int (fun _ _ => rfl))) (pe_op op_mul (pe_ix (kIxL K) (pv 0) pe_int (fun _ _ => rfl)) pe_int)) pe_int) pa_nil)) pe_int))
      (pss_one (ps_ret (pe_op op_modN (pe_callTy cInt (by rfl) Z.int (by decide +kernel) (pa_cons (pe_op op_fdivN (pv 4) pe_int) pa_nil)) (pv 1)))))))))), ?_⟩
    walk_at "go"
    refine it (fun h1 => ?_) (fun h1 => ?_)
    · walk_at "rd"
      have z := fmod_lt (a := d) (m := m) (by omega)
      exact k _ _ (SameBut.refl.put) ⟨⟨cs, i, _, s, upd_same, by rw [upd_ne hne]; exact hl, hcs, hi, fdiv_nn hd (by omega), hs, hs2⟩, hne⟩ z.1 z.2
    · walk_at "rd"
      refine ⟨fun σ' H' => H' = H ∧ ∃ c : Int, 0 ≤ c ∧ σ' = [some (.ref p), some (.int m), none, some (.int c), none], ?_, ?_⟩
      · walk_at "rd"
        refine it (fun h2 => ?_) (fun h2 => ?_)
        · rw [List.length_map] at h2
          have hlt : i.toNat < cs.length := by omega
          have e : atI (cs.map V.int) i = some (.int cs[i.toNat]) := atI_mid hi (by rw [List.getElem?_map, List.getElem?_eq_getElem hlt]; rfl)
          walk_at "rd"
          exact ⟨rfl, _, hcs _ (List.getElem_mem hlt), rfl⟩
        · walk_at "rd"
          exact ⟨rfl, 0, by decide, rfl⟩
      · rintro σ' H' ⟨rfl, c, hc, rfl⟩
        walk_at "rd"
        refine it (fun h3 => ?_) (fun h3 => ?_)
        · have e18 : (10 : Int) ^ 18 = 1000000000000000000 := by decide
          rw [e18] at h3
          walk_at "rd"
          have hd2 : 0 < c.fdiv 2 := fdiv_pos (by omega) (by omega)
          have z := fmod_lt (a := c.fdiv 2) (m := m) (by omega)
          exact ⟨p, l, m, _, _, _, rfl, upd_same, hd2, hm, hm2, k _ _ SameBut.refl.put.put.put ⟨⟨cs, i + 1, _, s, upd_same, by rw [upd_ne hne, upd_ne hne, upd_ne hne]; exact hl, hcs, by omega, fdiv_nn (by omega) (by omega), hs, hs2⟩, hne⟩ z.1 z.2⟩
        · walk_at "rd"
          have z := fmod_lt (a := s * 48271 + c * 69621 + (i + 1) * 613) (m := 2147483647) (by decide)
          generalize (s * 48271 + c * 69621 + (i + 1) * 613).fmod 2147483647 = g at z ⊢
          walk_at "rd"
          have z2 := fmod_lt (a := ((g * g + g * 7919 + 104729).fmod 1000000007).fdiv 3) (m := m) (by omega)
          exact k _ _ SameBut.refl.put.put ⟨⟨cs, i + 1, d, g, upd_same, by rw [upd_ne hne, upd_ne hne]; exact hl, hcs, by omega, hd, z.1, z.2⟩, hne⟩ z2.1 z2.2
end
end KN
end
section
set_option Elab.async false
set_option linter.all false
set_option maxRecDepth 100000
set_option maxHeartbeats 4000000
set_option pp.maxSteps 1500
set_option pp.deepTerms false
local macro_rules | `(tactic| walk_at "ne") => `(tactic| first
  | assumption | (apply Ne.symm; assumption)
  | exact R.ne_new (by assumption) | exact (R.ne_new (by assumption)).symm
  | exact L2.ne_of_none (by assumption) (by assumption) | exact (L2.ne_of_none (by assumption) (by assumption)).symm
  | exact L2.ne_of_none (by assumption) (R.free_new (by assumption)) | exact (L2.ne_of_none (by assumption) (R.free_new (by assumption))).symm)
local macro_rules | `(tactic| walk_at "at") => `(tactic| first
  | assumption | exact L2.upd_same
  | (refine R.sb (H := ?H) (p := ?p) ?e ?n ?h; (case e => assumption); (case n => walk_at "ne"); (case h => walk_at "at"))
  | (refine R.sm (H := ?H) ?e ?h; (case e => assumption); (case h => walk_at "at"))
  | (refine Eq.trans (L2.upd_ne ?_) ?_ <;> first | walk_at "ne" | walk_at "at"))
local macro_rules | `(tactic| walk_at "sqt") => `(tactic| first | assumption | (refine L2.SqT.of ?_; walk_at "at"))
local macro_rules | `(tactic| walk_at "ty") => `(tactic| first | exact R.tyN | exact R.tyB | exact R.tyI | exact R.tyS | (refine R.tyT (xs := ?xs) ?h; case h => walk_at "at") | (refine R.tyL (xs := ?xs) ?h; case h => walk_at "at"))
local macro_rules | `(tactic| walk_at "kit") => `(tactic| first | exact R.kit_NoneType_tuple | exact R.kit_NoneType_list | exact R.kit_NoneType_bool | exact R.kit_NoneType_str | exact R.kit_NoneType_int | exact R.kit_bool_tuple | exact R.kit_bool_list | exact R.kit_bool_bool | exact R.kit_bool_str | exact R.kit_bool_int | exact R.kit_int_tuple | exact R.kit_int_list | exact R.kit_int_bool | exact R.kit_int_str | exact R.kit_int_int | exact R.kit_str_tuple | exact R.kit_str_list | exact R.kit_str_bool | exact R.kit_str_str | exact R.kit_str_int | exact R.kit_tuple_tuple | exact R.kit_tuple_list | exact R.kit_tuple_bool | exact R.kit_tuple_str | exact R.kit_tuple_int | exact R.kit_list_tuple | exact R.kit_list_list | exact R.kit_list_bool | exact R.kit_list_str | exact R.kit_list_int)
local macro_rules | `(tactic| walk_at "sz") => `(tactic| first | assumption | (refine Nat.le_trans ?_ (show 1000 ≤ PySem.sizeLine by decide); omega) | decide)
local macro_rules | `(tactic| walk_at "szl") => `(tactic| first | assumption | exact Nat.le_of_lt (L2.small1000 (by omega)) | decide | decide +kernel)
local macro_rules | `(tactic| walk_at "sys") => `(tactic| first | assumption | exact KN.SysAt.same (by assumption) (by assumption))
local macro_rules | `(tactic| walk_at "dk") => `(tactic| first | exact R.rowsS _ _ | exact R.rowsM _ _)
local macro_rules | `(tactic| walk_at "sqa") => `(tactic| first | assumption | exact R.SeqA.same (by assumption) (by assumption) | exact R.SeqA.new (by assumption) (by assumption) | (exact Or.inl (by walk_at "at")) | (exact Or.inr (by walk_at "at")))
local macro_rules | `(tactic| walk_at "ix") => `(tactic| first | rfl | (exact L2.atI_nat (by assumption)) | assumption)
local macro_rules | `(tactic| walk_at "cond") => `(tactic| first
  | exact Or.inl (by decide) | exact Or.inr (by decide) | exact Or.inl ⟨by omega, by omega⟩ | exact Or.inr ⟨by omega, by omega⟩
  | (constructor <;> omega) | (show _ ≠ _; omega) | decide | omega)
local macro_rules | `(tactic| walk_at "r1") => `(tactic| first
  | with_reducible refine R.seq ?_ | with_reducible refine R.asg ?_ | with_reducible refine R.ifs ?_ | with_reducible refine R.ret ?_ | with_reducible refine R.retN ?_ | with_reducible refine R.drop ?_ | with_reducible refine R.next ?_
  | with_reducible refine R.op ?_ | ((with_reducible refine R.var (v := ?v) ?h ?q); case h => rfl) | with_reducible refine R.c ?_ | with_reducible refine R.tst ?_ | with_reducible refine R.tb_ ?_ | with_reducible refine R.ex ?_
  | with_reducible refine R.i0 ?_ | with_reducible refine R.eqI ?_ | with_reducible refine R.neI ?_ | ((with_reducible refine R.ic ?_ ?_); · walk_at "cond") | with_reducible refine R.u0 ?_ | with_reducible refine R.un ?_
  | ((with_reducible refine R.eq ?_ ?_); · rfl) | ((with_reducible refine R.ne ?_ ?_); · rfl)
  | with_reducible refine R.and_ ?_ | with_reducible refine R.or_ ?_ | with_reducible refine R.not_ ?_ | with_reducible refine R.ife ?_ | with_reducible refine R.chain ?_
  | with_reducible refine R.cons ?_ | with_reducible refine R.nil ?_ | with_reducible refine R.call ?_ | with_reducible refine R.cb ?_ | with_reducible refine R.bm ?_
  | with_reducible refine R.gname ?_ | with_reducible refine R.gsub ?_ | with_reducible refine R.gnil ?_ | with_reducible refine R.gcons ?_ | with_reducible refine R.yes ?_
  | with_reducible refine R.int1 ?_ | ((with_reducible refine R.lenL (xs := ?xs) ?h ?q); case h => walk_at "at")
  | ((with_reducible refine R.ixL (xs := ?xs) (v := ?v) ?h ?e ?q); (case h => walk_at "at"); (case e => walk_at "ix"))
  | ((with_reducible refine R.setL (xs := ?xs) (n := ?n) ?h ?e ?q); (case h => walk_at "at"); (case e => rfl))
  | ((with_reducible refine R.append (xs := ?xs) ?h ?e ?q); (case h => walk_at "at"); (case e => walk_at "cond"))
  | with_reducible refine R.is_ ?_ | with_reducible refine R.isnot ?_ | with_reducible refine R.andV ?_ | with_reducible refine R.orV ?_ | with_reducible refine R.notV ?_
  | ((with_reducible refine R.isi (s := ?s) (b := ?b) ?ty ?h ?q); (case ty => walk_at "ty"); (case h => walk_at "kit"))
  | ((with_reducible refine R.addS ?h ?q); (case h => walk_at "sz")) | with_reducible refine R.max2 ?_ | with_reducible refine R.min2 ?_
  | ((with_reducible refine R.lenStr ?h ?q); (case h => walk_at "szl")) | ((with_reducible refine R.ixS (n := ?n) ?h ?e ?q); (case h => walk_at "szl"); (case e => walk_at "ix"))
  | ((with_reducible refine R.tyl (xs := ?xs) ?h ?q); (case h => walk_at "at")) | with_reducible refine R.itlist ?_ | with_reducible refine R.ittup ?_ | with_reducible refine R.m1 ?_ | with_reducible refine R.m1s ?_ | with_reducible refine R.leS ?_ | with_reducible refine R.itstr ?_ | with_reducible refine R.itstrE ?_ | with_reducible refine R.lc ?_ | with_reducible refine R.lc2 ?_ | with_reducible refine R.ckw ?_ | with_reducible refine R.par ?_ | with_reducible refine R.parE ?_ | with_reducible refine R.itrev ?_ | with_reducible refine R.dsetd ?_ | with_reducible refine R.dnotin_ ?_ | with_reducible refine R.for_ ?_ | ((with_reducible refine R.all_ (bs := ?bs) ?h ?q); (case h => walk_at "at"))
  | with_reducible refine R.rng1 ?_ | ((with_reducible refine R.rngE ?h ?q); (case h => (constructor <;> omega)))
  | ((with_reducible refine R.lenT (xs := ?xs) ?h ?q); (case h => walk_at "sqt")) | ((with_reducible refine R.ixT (xs := ?xs) (v := ?v) ?h ?e ?q); (case h => walk_at "sqt"); (case e => walk_at "ix"))
  | ((refine R.itlE (xs := ?xs) ?h ?q); (case h => walk_at "at")) | ((refine R.ittE (xs := ?xs) ?h ?q); (case h => walk_at "at"))
  | ((refine R.gseq (xs := ?xs) ?h ?e ?q); (case h => walk_at "sqa"); (case e => rfl)) | ((refine R.ixA (xs := ?xs) (v := ?v) ?h ?e ?q); (case h => walk_at "sqa"); (case e => walk_at "ix")) | ((refine R.lenA (xs := ?xs) ?h ?q); (case h => walk_at "sqa"))
  | ((with_reducible refine R.gtup (xs := ?xs) ?h ?e ?q); (case h => walk_at "sqt"); (case e => rfl))
  | with_reducible refine R.din_ ?_ | with_reducible refine R.dput_ ?_
  | with_reducible refine R.dget2_ ?_ | ((with_reducible refine R.aug_ (x := ?x) ?h ?q); case h => rfl) | with_reducible refine R.ipI_ ?_
  | with_reducible refine R.rng2 ?_ | ((with_reducible refine R.rngE2 ?h ?q); (case h => (refine ⟨?_, ?_, ?_, ?_⟩ <;> omega)))
  | with_reducible refine R.brk ?_ | with_reducible refine R.intB ?_ | with_reducible refine R.meth_ ?_ | ((refine KN.methS (rs := ?rs) (ms := ?ms) ?h (fun _ _ _ _ => rfl) ?q); case h => walk_at "sys")
  | with_reducible refine R.sl_ ?_ | with_reducible refine R.np_ ?_ | with_reducible refine R.pt_ ?_ | with_reducible refine R.ptE ?_ | with_reducible refine R.dget_ ?_ | with_reducible refine R.revL_ ?_
  | ((refine R.dgetS (kvs := ?kvs) (v := ?v) ?h ?e ?q); (case h => walk_at "at"); (case e => walk_at "dk"))
  | with_reducible refine R.sfld ?_ | with_reducible refine R.fld_ ?_ | with_reducible refine R.dc ?_
  | with_reducible refine R.dget1_ ?_
  | with_reducible refine R.itseq ?_ | with_reducible refine R.itenum ?_
  | with_reducible refine R.itT ?_ | with_reducible refine R.itF ?_ | with_reducible refine R.itNT ?_ | with_reducible refine R.itNF ?_
  | (with_reducible refine R.tup ?_) | (with_reducible refine R.lst ?_))
local macro_rules | `(tactic| walk_at "rd") => `(tactic| (repeat (first | walk_at "r1" | (dsimp only [Int.reduceToNat, List.set_cons_succ, List.set_cons_zero, List.length_cons, List.length_nil, List.nil_append, List.cons_append, List.append_nil]))))
local macro_rules | `(tactic| walk_at "go") => `(tactic| (rw [R.start_eq]; dsimp only [R.startE, List.map_nil]; walk_at "rd"))
namespace KN
open PySem L2 SX C8 R
section
variable {P : Program} {w : World} {K : PySem.W.Frag} {mg : Str → Option Value} {base : Heap}
abbrev sIsint : Stmt := top 25
theorem scIsint : FnScope ["actual"] ["actual"] (fnScope sIsint) := ⟨rfl, rfl, rfl, by decide +kernel, rfl, by decide +kernel, by decide +kernel⟩
abbrev sSame : Stmt := top 26
theorem scSame : FnScope ["actual", "due", "k"] ["actual", "due"] (fnScope sSame) := ⟨rfl, rfl, rfl, by decide +kernel, rfl, by decide +kernel, by decide +kernel⟩
/-- one value that is no object -/
inductive Scal : V → Prop
  | non : Scal .non
  | bl (b : Bool) : Scal (.bl b)
  | int (i : Int) : Scal (.int i)
  | str (w : Str) : Scal (.str w)
/-- equal data, of depth less than n -/
def Eqd (H : Hp) : Nat → V → V → Prop
  | 0, _, _ => False
  | n + 1, x, y => (x = y ∧ Scal x) ∨ (∃ a b xs ys, x = .ref a ∧ y = .ref b ∧ H a = some (.tup xs) ∧ H b = some (.tup ys) ∧ xs.length = ys.length ∧ xs.length ≤ 1000 ∧ ∀ (k : Nat) (u v : V), xs[k]? = some u → ys[k]? = some v → Eqd H n u v) ∨
      ∃ a b xs ys, x = .ref a ∧ y = .ref b ∧ H a = some (.lst xs) ∧ H b = some (.lst ys) ∧ xs.length = ys.length ∧ xs.length ≤ 1000 ∧ ∀ (k : Nat) (u v : V), xs[k]? = some u → ys[k]? = some v → Eqd H n u v
theorem Eqd.same {H H' : Hp} (s : Same H H') : ∀ n x y, Eqd H n x y → Eqd H' n x y
  | 0, _, _, h => (h : False).elim
  | n + 1, x, y, h => by
    rcases h with h | ⟨a, b, xs, ys, h1, h2, h3, h4, h5, h6, h7⟩ | ⟨a, b, xs, ys, h1, h2, h3, h4, h5, h6, h7⟩
    · exact .inl h
    · exact .inr (.inl ⟨a, b, xs, ys, h1, h2, s _ _ h3, s _ _ h4, h5, h6, fun k u v p q => Eqd.same s n _ _ (h7 k u v p q)⟩)
    · exact .inr (.inr ⟨a, b, xs, ys, h1, h2, s _ _ h3, s _ _ h4, h5, h6, fun k u v p q => Eqd.same s n _ _ (h7 k u v p q)⟩)
def spIsint : Sp := fun vs H Q _ => ∃ i : Int, vs = [.int i] ∧ Q (.bl true) H
def spSame (n : Nat) : Sp := fun vs H Q _ => ∃ x y, vs = [x, y] ∧ Eqd H n x y ∧ ∀ H', Same H H' → Q (.bl true) H'
theorem c_isint (Z : Zs mg) {f : Addr} {fd : FuncData} (F : Def K mg "_law_is_integer" sIsint f fd) (b : Binds K fd ["actual"] []) : Cal P w K mg base 1 "_law_is_integer" spIsint [] := by
  refine cal0 F b .nil scIsint (fun vs H Q E h => ?_) (fun cdv A outer s H vs Q E hr h => ?_)
  · obtain ⟨i, rfl, _⟩ := h
    rfl
  · obtain ⟨i, rfl, k⟩ := h
    refine ⟨_, pss_one (ps_ret (pe_and (pe_callB (kIsi K) (by rfl) Z.isinstance (by decide +kernel) (pa_cons (pv 0) (pa_cons (pe_bltn (v := .ty "int") (by rfl) Z.int (by decide +kernel) rfl) pa_nil))) (pe_one (pe_not (pe_callB (kIsi K) (by rfl) Z.isinstance (by decide +kernel) (pa_cons (pv 0) (pa_cons (pe_bltn (v := .ty "bool") (by rfl) Z.bool (by decide +kernel) rfl) pa_nil))))))), ?_⟩
    walk_at "go"
    exact k
theorem c_same (Z : Zs mg) (c_is_integer : Cal P w K mg base 1 "_law_is_integer" spIsint []) {f : Addr} {fd : FuncData} (F : Def K mg "_law_same" sSame f fd) (b : Binds K fd ["actual", "due"] []) : ∀ n, Cal P w K mg base (n + 2) "_law_same" (spSame n) []
  | 0 => by
    refine cal0 F b .nil scSame (fun vs H Q E h => ?_) (fun cdv A outer s H vs Q E hr h => ?_)
    · obtain ⟨x, y, _, h, _⟩ := h
      exact h.elim
    · obtain ⟨x, y, _, h, _⟩ := h
      exact h.elim
  | n + 1 => by
    have c_same := c_same Z c_is_integer F b n
    refine cal0 F b .nil scSame (fun vs H Q E h => ?_) (fun cdv A outer s H vs Q E hr h => ?_)
    · obtain ⟨x, y, rfl, _⟩ := h
      rfl
    · obtain ⟨x, y, rfl, h, k⟩ := h
      refine ⟨_, pss_cons (ps_if (pt_val (pe_callB (kIsi K) (by rfl) Z.isinstance (by decide +kernel) (pa_cons (pv 1) (pa_cons (pe_bltn (v := .ty "tuple") (by rfl) Z.tuple (by decide +kernel) rfl) pa_nil))))
        (pss_cons (ps_if (PW.pt (pw_or (pt_not (pt_val (pe_callB (kIsi K) (by rfl) Z.isinstance (by decide +kernel) (pa_cons (pv 0) (pa_cons (pe_bltn (v := .ty "tuple") (by rfl) Z.tuple (by decide +kernel) rfl) pa_nil))))) (pw_or1 (pt_cmpR op_ne (pe_callB (kLen K) (by rfl) Z.len PySem.boot_len (pa_cons (pv 0) pa_nil)) (pe_callB (kLen K) (by rfl) Z.len PySem.boot_len (pa_cons (pv 1) pa_nil)) (nomark _)))))
        (pss_one (ps_ret pe_bl))
        (pss_nil))
      (pss_one (ps_ret (pe_callB (kAll K) (by rfl) Z.all (by decide +kernel) (pa_cons (pe_lc (own := [("k", 2)]) (g := gName 2) (tt := tYes) rfl scSame.nd (pi_range1 (by rfl) Z.range (pa_cons (pe_callB (kLen K) (by rfl) Z.len PySem.boot_len (pa_cons (pv 1) pa_nil)) pa_nil)) (blkOk_by (own := [("k", 2)]) (N := ["actual", "due", "k"]) (sc := fnScope sSame) (by decide +kernel)) (fun _ _ _ _ _ => (pg_name (i := 2) scSame.nd rfl (Or.inl rfl))) (fun _ _ _ _ _ => pts_nil) (fun _ _ _ _ _ => pe_c c_same hr (by omega) (by rfl) (pa_cons (pe_ix (kIxT K) (pv 0) (pv 2) (fun _ _ => rfl)) (pa_cons (pe_ix (kIxT K) (pv 1) (pv 2) (fun _ _ => rfl)) pa_nil)))) pa_nil)))))
        (pss_nil))
      (pss_cons (ps_if (pt_val (pe_callB (kIsi K) (by rfl) Z.isinstance (by decide +kernel) (pa_cons (pv 1) (pa_cons (pe_bltn (v := .ty "list") (by rfl) Z.list (by decide +kernel) rfl) pa_nil))))
        (pss_cons (ps_if (PW.pt (pw_or (pt_not (pt_val (pe_callB (kIsi K) (by rfl) Z.isinstance (by decide +kernel) (pa_cons (pv 0) (pa_cons (pe_bltn (v := .ty "list") (by rfl) Z.list (by decide +kernel) rfl) pa_nil))))) (pw_or1 (pt_cmpR op_ne (pe_callB (kLen K) (by rfl) Z.len PySem.boot_len (pa_cons (pv 0) pa_nil)) (pe_callB (kLen K) (by rfl) Z.len PySem.boot_len (pa_cons (pv 1) pa_nil)) (nomark _)))))
        (pss_one (ps_ret pe_bl))
        (pss_nil))
      (pss_one (ps_ret (pe_callB (kAll K) (by rfl) Z.all (by decide +kernel) (pa_cons (pe_lc (own := [("k", 2)]) (g := gName 2) (tt := tYes) rfl scSame.nd (pi_range1 (by rfl) Z.range (pa_cons (pe_callB (kLen K) (by rfl) Z.len PySem.boot_len (pa_cons (pv 1) pa_nil)) pa_nil)) (blkOk_by (own := [("k", 2)]) (N := ["actual", "due", "k"]) (sc := fnScope sSame) (by decide +kernel)) (fun _ _ _ _ _ => (pg_name (i := 2) scSame.nd rfl (Or.inl rfl))) (fun _ _ _ _ _ => pts_nil) (fun _ _ _ _ _ => pe_c c_same hr (by omega) (by rfl) (pa_cons (pe_ix (kIxL K) (pv 0) (pv 2) (fun _ _ => rfl)) (pa_cons (pe_ix (kIxL K) (pv 1) (pv 2) (fun _ _ => rfl)) pa_nil)))) pa_nil)))))
        (pss_nil))
      (pss_cons (ps_if (pt_cmpR oIs (pv 1) pe_non (nomark _))
        (pss_one (ps_ret (pe_cmpR oIs (pv 0) pe_non (nomark _))))
        (pss_nil))
      (pss_cons (ps_if (pt_val (pe_callB (kIsi K) (by rfl) Z.isinstance (by decide +kernel) (pa_cons (pv 1) (pa_cons (pe_bltn (v := .ty "bool") (by rfl) Z.bool (by decide +kernel) rfl) pa_nil))))
        (pss_one (ps_ret (pe_and (pe_callB (kIsi K) (by rfl) Z.isinstance (by decide +kernel) (pa_cons (pv 0) (pa_cons (pe_bltn (v := .ty "bool") (by rfl) Z.bool (by decide +kernel) rfl) pa_nil))) (pe_one (pe_cmpR op_eq (pv 0) (pv 1) (nomark _))))))
        (pss_nil))
      (pss_cons (ps_if (pt_val (pe_callB (kIsi K) (by rfl) Z.isinstance (by decide +kernel) (pa_cons (pv 1) (pa_cons (pe_bltn (v := .ty "str") (by rfl) Z.str (by decide +kernel) rfl) pa_nil))))
        (pss_one (ps_ret (pe_and (pe_callB (kIsi K) (by rfl) Z.isinstance (by decide +kernel) (pa_cons (pv 0) (pa_cons (pe_bltn (v := .ty "str") (by rfl) Z.str (by decide +kernel) rfl) pa_nil))) (pe_one (pe_cmpR op_eq (pv 0) (pv 1) (nomark _))))))
        (pss_nil))
      (pss_one (ps_ret (pe_and (pe_c c_is_integer hr (by omega) (by rfl) (pa_cons (pv 0) pa_nil)) (pe_one (pe_cmpR op_eq (pv 0) (pv 1) (nomark _)))))))))), ?_⟩
      rcases h with ⟨rfl, h⟩ | ⟨a, b, xs, ys, rfl, rfl, ha, hb, hl, hz, he⟩ | ⟨a, b, xs, ys, rfl, rfl, ha, hb, hl, hz, he⟩
      · cases h with
        | non =>
          walk_at "go"
          refine itY rfl ?_
          walk_at "rd"
          exact dT rfl (k _ (Same.refl H))
        | bl v =>
          walk_at "go"
          refine itN (fun z => nomatch z) ?_
          walk_at "rd"
          exact dT rfl (k _ (Same.refl H))
        | int v =>
          walk_at "go"
          refine itN (fun z => nomatch z) ?_
          walk_at "rd"
          refine ⟨v, rfl, ?_⟩
          walk_at "rd"
          exact dT rfl (k _ (Same.refl H))
        | str v =>
          walk_at "go"
          refine itN (fun z => nomatch z) ?_
          walk_at "rd"
          exact dT rfl (k _ (Same.refl H))
      · walk_at "go"
        refine itn (fun z => absurd (by rw [hl]) z) (fun _ => ?_)
        walk_at "rd"
        intro D hD
        refine lc_range (lo := 0) (n := (ys.length : Int).toNat) (fun i H' => Same H H' ∧ H' D = some (.lst ((List.replicate i true).map V.bl))) ⟨same_new (Same.refl H) hD, upd_same⟩ ?_ ?_
        · rintro i H' hi ⟨s0, hDc⟩
          have hy : i < ys.length := by omega
          have hx : i < xs.length := by omega
          have ha' := s0 _ _ ha
          have hb' := s0 _ _ hb
          have ex : xs[i]? = some xs[i] := List.getElem?_eq_getElem hx
          have ey : ys[i]? = some ys[i] := List.getElem?_eq_getElem hy
          refine R.gname ⟨rfl, ?_⟩
          rw [Int.zero_add]
          walk_at "rd"
          refine ⟨_, _, rfl, Eqd.same s0 _ _ _ (he i _ _ ex ey), fun H2 s2 => ⟨_, s2 _ _ hDc, small1000 (by rw [List.length_map, List.length_replicate]; omega), same_put (s0.trans s2) hD, ?_⟩⟩
          rw [upd_same, List.replicate_succ', List.map_append]
          rfl
        · rintro H' ⟨s0, hDc⟩
          walk_at "rd"
          rw [all_rep]
          exact k _ s0
      · walk_at "go"
        refine itn (fun z => absurd (by rw [hl]) z) (fun _ => ?_)
        walk_at "rd"
        intro D hD
        refine lc_range (lo := 0) (n := (ys.length : Int).toNat) (fun i H' => Same H H' ∧ H' D = some (.lst ((List.replicate i true).map V.bl))) ⟨same_new (Same.refl H) hD, upd_same⟩ ?_ ?_
        · rintro i H' hi ⟨s0, hDc⟩
          have hy : i < ys.length := by omega
          have hx : i < xs.length := by omega
          have ha' := s0 _ _ ha
          have hb' := s0 _ _ hb
          have ex : xs[i]? = some xs[i] := List.getElem?_eq_getElem hx
          have ey : ys[i]? = some ys[i] := List.getElem?_eq_getElem hy
          refine R.gname ⟨rfl, ?_⟩
          rw [Int.zero_add]
          walk_at "rd"
          refine ⟨_, _, rfl, Eqd.same s0 _ _ _ (he i _ _ ex ey), fun H2 s2 => ⟨_, s2 _ _ hDc, small1000 (by rw [List.length_map, List.length_replicate]; omega), same_put (s0.trans s2) hD, ?_⟩⟩
          rw [upd_same, List.replicate_succ', List.map_append]
          rfl
        · rintro H' ⟨s0, hDc⟩
          walk_at "rd"
          rw [all_rep]
          exact k _ s0
end
end KN
end
section
set_option Elab.async false
set_option linter.all false
set_option maxRecDepth 100000
set_option maxHeartbeats 4000000
set_option pp.maxSteps 1500
set_option pp.deepTerms false
local macro_rules | `(tactic| walk_at "ne") => `(tactic| first
  | assumption | (apply Ne.symm; assumption)
  | exact R.ne_new (by assumption) | exact (R.ne_new (by assumption)).symm
  | exact L2.ne_of_none (by assumption) (by assumption) | exact (L2.ne_of_none (by assumption) (by assumption)).symm
  | exact L2.ne_of_none (by assumption) (R.free_new (by assumption)) | exact (L2.ne_of_none (by assumption) (R.free_new (by assumption))).symm)
local macro_rules | `(tactic| walk_at "at") => `(tactic| first
  | assumption | exact L2.upd_same
  | (refine R.sb (H := ?H) (p := ?p) ?e ?n ?h; (case e => assumption); (case n => walk_at "ne"); (case h => walk_at "at"))
  | (refine R.sm (H := ?H) ?e ?h; (case e => assumption); (case h => walk_at "at"))
  | (refine Eq.trans (L2.upd_ne ?_) ?_ <;> first | walk_at "ne" | walk_at "at"))
local macro_rules | `(tactic| walk_at "sqt") => `(tactic| first | assumption | (refine L2.SqT.of ?_; walk_at "at"))
local macro_rules | `(tactic| walk_at "ty") => `(tactic| first | exact R.tyN | exact R.tyB | exact R.tyI | exact R.tyS | (refine R.tyT (xs := ?xs) ?h; case h => walk_at "at") | (refine R.tyL (xs := ?xs) ?h; case h => walk_at "at"))
local macro_rules | `(tactic| walk_at "kit") => `(tactic| first | exact R.kit_NoneType_tuple | exact R.kit_NoneType_list | exact R.kit_NoneType_bool | exact R.kit_NoneType_str | exact R.kit_NoneType_int | exact R.kit_bool_tuple | exact R.kit_bool_list | exact R.kit_bool_bool | exact R.kit_bool_str | exact R.kit_bool_int | exact R.kit_int_tuple | exact R.kit_int_list | exact R.kit_int_bool | exact R.kit_int_str | exact R.kit_int_int | exact R.kit_str_tuple | exact R.kit_str_list | exact R.kit_str_bool | exact R.kit_str_str | exact R.kit_str_int | exact R.kit_tuple_tuple | exact R.kit_tuple_list | exact R.kit_tuple_bool | exact R.kit_tuple_str | exact R.kit_tuple_int | exact R.kit_list_tuple | exact R.kit_list_list | exact R.kit_list_bool | exact R.kit_list_str | exact R.kit_list_int)
local macro_rules | `(tactic| walk_at "sz") => `(tactic| first | assumption | (refine Nat.le_trans ?_ (show 1000 ≤ PySem.sizeLine by decide); omega) | decide)
local macro_rules | `(tactic| walk_at "szl") => `(tactic| first | assumption | exact Nat.le_of_lt (L2.small1000 (by omega)) | decide | decide +kernel)
local macro_rules | `(tactic| walk_at "sys") => `(tactic| first | assumption | exact KN.SysAt.same (by assumption) (by assumption))
local macro_rules | `(tactic| walk_at "dk") => `(tactic| first | exact R.rowsS _ _ | exact R.rowsM _ _)
local macro_rules | `(tactic| walk_at "sqa") => `(tactic| first | assumption | exact R.SeqA.same (by assumption) (by assumption) | exact R.SeqA.new (by assumption) (by assumption) | (exact Or.inl (by walk_at "at")) | (exact Or.inr (by walk_at "at")))
local macro_rules | `(tactic| walk_at "ix") => `(tactic| first | rfl | (exact L2.atI_nat (by assumption)) | assumption)
local macro_rules | `(tactic| walk_at "cond") => `(tactic| first
  | exact Or.inl (by decide) | exact Or.inr (by decide) | exact Or.inl ⟨by omega, by omega⟩ | exact Or.inr ⟨by omega, by omega⟩
  | (constructor <;> omega) | (show _ ≠ _; omega) | decide | omega)
local macro_rules | `(tactic| walk_at "r1") => `(tactic| first
  | with_reducible refine R.seq ?_ | with_reducible refine R.asg ?_ | with_reducible refine R.ifs ?_ | with_reducible refine R.ret ?_ | with_reducible refine R.retN ?_ | with_reducible refine R.drop ?_ | with_reducible refine R.next ?_
  | with_reducible refine R.op ?_ | ((with_reducible refine R.var (v := ?v) ?h ?q); case h => rfl) | with_reducible refine R.c ?_ | with_reducible refine R.tst ?_ | with_reducible refine R.tb_ ?_ | with_reducible refine R.ex ?_
  | with_reducible refine R.i0 ?_ | with_reducible refine R.eqI ?_ | with_reducible refine R.neI ?_ | ((with_reducible refine R.ic ?_ ?_); · walk_at "cond") | with_reducible refine R.u0 ?_ | with_reducible refine R.un ?_
  | ((with_reducible refine R.eq ?_ ?_); · rfl) | ((with_reducible refine R.ne ?_ ?_); · rfl)
  | with_reducible refine R.and_ ?_ | with_reducible refine R.or_ ?_ | with_reducible refine R.not_ ?_ | with_reducible refine R.ife ?_ | with_reducible refine R.chain ?_
  | with_reducible refine R.cons ?_ | with_reducible refine R.nil ?_ | with_reducible refine R.call ?_ | with_reducible refine R.cb ?_ | with_reducible refine R.bm ?_
  | with_reducible refine R.gname ?_ | with_reducible refine R.gsub ?_ | with_reducible refine R.gnil ?_ | with_reducible refine R.gcons ?_ | with_reducible refine R.yes ?_
  | with_reducible refine R.int1 ?_ | ((with_reducible refine R.lenL (xs := ?xs) ?h ?q); case h => walk_at "at")
  | ((with_reducible refine R.ixL (xs := ?xs) (v := ?v) ?h ?e ?q); (case h => walk_at "at"); (case e => walk_at "ix"))
  | ((with_reducible refine R.setL (xs := ?xs) (n := ?n) ?h ?e ?q); (case h => walk_at "at"); (case e => rfl))
  | ((with_reducible refine R.append (xs := ?xs) ?h ?e ?q); (case h => walk_at "at"); (case e => walk_at "cond"))
  | with_reducible refine R.is_ ?_ | with_reducible refine R.isnot ?_ | with_reducible refine R.andV ?_ | with_reducible refine R.orV ?_ | with_reducible refine R.notV ?_
  | ((with_reducible refine R.isi (s := ?s) (b := ?b) ?ty ?h ?q); (case ty => walk_at "ty"); (case h => walk_at "kit"))
  | ((with_reducible refine R.addS ?h ?q); (case h => walk_at "sz")) | with_reducible refine R.max2 ?_ | with_reducible refine R.min2 ?_
  | ((with_reducible refine R.lenStr ?h ?q); (case h => walk_at "szl")) | ((with_reducible refine R.ixS (n := ?n) ?h ?e ?q); (case h => walk_at "szl"); (case e => walk_at "ix"))
  | ((with_reducible refine R.tyl (xs := ?xs) ?h ?q); (case h => walk_at "at")) | with_reducible refine R.itlist ?_ | with_reducible refine R.ittup ?_ | with_reducible refine R.m1 ?_ | with_reducible refine R.m1s ?_ | with_reducible refine R.leS ?_ | with_reducible refine R.itstr ?_ | with_reducible refine R.itstrE ?_ | with_reducible refine R.lc ?_ | with_reducible refine R.lc2 ?_ | with_reducible refine R.ckw ?_ | with_reducible refine R.par ?_ | with_reducible refine R.parE ?_ | with_reducible refine R.itrev ?_ | with_reducible refine R.dsetd ?_ | with_reducible refine R.dnotin_ ?_ | with_reducible refine R.for_ ?_ | ((with_reducible refine R.all_ (bs := ?bs) ?h ?q); (case h => walk_at "at"))
  | with_reducible refine R.rng1 ?_ | ((with_reducible refine R.rngE ?h ?q); (case h => (constructor <;> omega)))
  | ((with_reducible refine R.lenT (xs := ?xs) ?h ?q); (case h => walk_at "sqt")) | ((with_reducible refine R.ixT (xs := ?xs) (v := ?v) ?h ?e ?q); (case h => walk_at "sqt"); (case e => walk_at "ix"))
  | ((refine R.itlE (xs := ?xs) ?h ?q); (case h => walk_at "at")) | ((refine R.ittE (xs := ?xs) ?h ?q); (case h => walk_at "at"))
  | ((refine R.gseq (xs := ?xs) ?h ?e ?q); (case h => walk_at "sqa"); (case e => rfl)) | ((refine R.ixA (xs := ?xs) (v := ?v) ?h ?e ?q); (case h => walk_at "sqa"); (case e => walk_at "ix")) | ((refine R.lenA (xs := ?xs) ?h ?q); (case h => walk_at "sqa"))
  | ((with_reducible refine R.gtup (xs := ?xs) ?h ?e ?q); (case h => walk_at "sqt"); (case e => rfl))
  | with_reducible refine R.din_ ?_ | with_reducible refine R.dput_ ?_
  | with_reducible refine R.dget2_ ?_ | ((with_reducible refine R.aug_ (x := ?x) ?h ?q); case h => rfl) | with_reducible refine R.ipI_ ?_
  | with_reducible refine R.rng2 ?_ | ((with_reducible refine R.rngE2 ?h ?q); (case h => (refine ⟨?_, ?_, ?_, ?_⟩ <;> omega)))
  | with_reducible refine R.brk ?_ | with_reducible refine R.intB ?_ | with_reducible refine R.meth_ ?_ | ((refine KN.methS (rs := ?rs) (ms := ?ms) ?h (fun _ _ _ _ => rfl) ?q); case h => walk_at "sys")
  | with_reducible refine R.sl_ ?_ | with_reducible refine R.np_ ?_ | with_reducible refine R.pt_ ?_ | with_reducible refine R.ptE ?_ | with_reducible refine R.dget_ ?_ | with_reducible refine R.revL_ ?_
  | ((refine R.dgetS (kvs := ?kvs) (v := ?v) ?h ?e ?q); (case h => walk_at "at"); (case e => walk_at "dk"))
  | with_reducible refine R.sfld ?_ | with_reducible refine R.fld_ ?_ | with_reducible refine R.dc ?_
  | with_reducible refine R.dget1_ ?_
  | with_reducible refine R.itseq ?_ | with_reducible refine R.itenum ?_
  | with_reducible refine R.itT ?_ | with_reducible refine R.itF ?_ | with_reducible refine R.itNT ?_ | with_reducible refine R.itNF ?_
  | (with_reducible refine R.tup ?_) | (with_reducible refine R.lst ?_))
local macro_rules | `(tactic| walk_at "rd") => `(tactic| (repeat (first | walk_at "r1" | (dsimp only [Int.reduceToNat, List.set_cons_succ, List.set_cons_zero, List.length_cons, List.length_nil, List.nil_append, List.cons_append, List.append_nil]))))
local macro_rules | `(tactic| walk_at "go") => `(tactic| (rw [R.start_eq]; dsimp only [R.startE, List.map_nil]; walk_at "rd"))
namespace KN
open PySem L2 SX C8 R
section
variable {P : Program} {w : World} {K : PySem.W.Frag} {mg : Str → Option Value} {base : Heap}
/-- the module's numbers -/
structure Cs (mg : Str → Option Value) : Prop where
  MOST_SIMPLE : ∃ u, mg "MOST_SIMPLE" = some u ∧ RelV (.int 24) u
  MOST_MULTIPLIERS : ∃ u, mg "MOST_MULTIPLIERS" = some u ∧ RelV (.int 6) u
  LONGEST_WORD : ∃ u, mg "LONGEST_WORD" = some u ∧ RelV (.int 8) u
  GREATEST : ∃ u, mg "GREATEST" = some u ∧ RelV (.int 100000) u
abbrev sIsword : Stmt := top 15
theorem scIsword : FnScope ["text", "letter"] ["text"] (fnScope sIsword) := ⟨rfl, rfl, rfl, by decide +kernel, rfl, by decide +kernel, by decide +kernel⟩
def okSign (c : Nat) : Bool := decide (97 ≤ c) && decide (c ≤ 122)
def okWord (z : Str) : Bool := decide (1 ≤ (z.length : Int)) && decide ((z.length : Int) ≤ 8) && z.cps.toList.all okSign
def spIsword : Sp := fun vs H Q _ => ∃ z : Str, vs = [.str z] ∧ z.length ≤ 1000 ∧ ∀ H', Same H H' → Q (.bl (okWord z)) H'
theorem sign_ok (c : Nat) : ((!decide ([c] < [97])) && (!decide ([122] < [c]))) = okSign c := by
  unfold okSign
  have e1 : decide ([c] < [97]) = decide (c < 97) := decide_eq_decide.mpr lt1
  have e2 : decide ([122] < [c]) = decide (122 < c) := decide_eq_decide.mpr lt1
  rw [e1, e2]
  have e3 : (!decide (c < 97)) = decide (97 ≤ c) := by rw [← decide_not]; exact decide_eq_decide.mpr (by omega)
  have e4 : (!decide (122 < c)) = decide (c ≤ 122) := by rw [← decide_not]; exact decide_eq_decide.mpr (by omega)
  rw [e3, e4]
theorem c_is_word (Z : Zs mg) (C : Cs mg) {f : Addr} {fd : FuncData} (F : Def K mg "is_word" sIsword f fd) (b : Binds K fd ["text"] []) : Cal P w K mg base 1 "is_word" spIsword [] := by
  refine cal0 F b .nil scIsword (fun vs H Q E h => ?_) (fun cdv A outer s H vs Q E hr h => ?_)
  · obtain ⟨z, rfl, _⟩ := h
    rfl
  · obtain ⟨z, rfl, hz, k⟩ := h
    refine ⟨_, pss_one (ps_ret (pe_and (pe_chain op_le op_le pe_int (pe_callB cLenS (by rfl) Z.len PySem.boot_len (pa_cons (pv 0) pa_nil)) (pe_gc (by rfl) C.LONGEST_WORD)) (pe_one (pe_callB (kAll K) (by rfl) Z.all (by decide +kernel) (pa_cons (pe_lc (own := [("letter", 1)]) (g := gName 1) (tt := tYes) rfl scIsword.nd (pi_str (pv 0)) (blkOk_by (own := [("letter", 1)]) (N := ["text", "letter"]) (sc := fnScope sIsword) (by decide +kernel)) (fun _ _ _ _ _ => (pg_name (i := 1) scIsword.nd rfl (Or.inl rfl))) (fun _ _ _ _ _ => pts_nil) (fun _ _ _ _ _ => pe_chain oLeS oLeS pe_str (pv 1) pe_str)) pa_nil))))), ?_⟩
    have e0 : okWord z = (decide (1 ≤ (z.length : Int)) && decide ((z.length : Int) ≤ 8) && z.cps.toList.all okSign) := rfl
    walk_at "go"
    refine it (fun h1 => ?_) (fun h1 => ?_)
    · walk_at "rd"
      refine it (fun h2 => ?_) (fun h2 => ?_)
      · rw [decide_eq_true h1, decide_eq_true h2, Bool.true_and, Bool.true_and] at e0
        walk_at "rd"
        intro D hD
        refine lc_it walk_str (fun i H' => Same H H' ∧ H' D = some (.lst (((z.cps.toList.take i).map okSign).map V.bl))) ⟨same_new (Same.refl H) hD, upd_same⟩ (fun _ _ _ _ => trivial) ?_ ?_
        · rintro i x H1 H2 hi ⟨s0, hDc⟩ ⟨rfl, c, hc, rfl⟩
          have hc' : z.cps.toList[i]? = some c := by rw [← hc]; simp
          have fin : ∀ t : Bool, t = okSign c → ∃ acc, H2 D = some (.lst acc) ∧ acc.length < sizeLine ∧ Same H (upd H2 D (.lst (acc ++ [V.bl t]))) ∧ upd H2 D (.lst (acc ++ [V.bl t])) D = some (.lst (((z.cps.toList.take (i + 1)).map okSign).map V.bl)) := by
            rintro t rfl
            refine ⟨_, hDc, small1000 ?_, same_put s0 hD, ?_⟩
            · rw [List.length_map, List.length_map, List.length_take]
              have : z.length = z.cps.size := rfl
              omega
            · rw [upd_same, List.take_add_one, hc', List.map_append, List.map_append]
              rfl
          refine R.gname ⟨rfl, ?_⟩
          walk_at "rd"
          refine itn (fun h3 => ?_) (fun h3 => ?_)
          · walk_at "rd"
            refine fin _ ?_
            rw [← sign_ok]
            have h3' : ¬ [c] < [97] := h3
            rw [decide_eq_false h3']
            rfl
          · walk_at "rd"
            refine fin _ ?_
            rw [← sign_ok]
            have h3' : [c] < [97] := h3
            rw [decide_eq_true h3']
            rfl
        · rintro H' ⟨s0, hDc⟩
          have ht : z.cps.toList.take z.cps.size = z.cps.toList := List.take_of_length_le (by simp)
          rw [ht] at hDc
          walk_at "rd"
          have e1 : ((z.cps.toList.map okSign).all id) = z.cps.toList.all okSign := by rw [List.all_map]; rfl
          rw [e1, ← e0]
          exact k _ s0
      · rw [decide_eq_true h1, decide_eq_false h2] at e0
        walk_at "rd"
        have := k H (Same.refl H)
        rw [e0] at this
        exact this
    · rw [decide_eq_false h1] at e0
      walk_at "rd"
      have := k H (Same.refl H)
      rw [e0] at this
      exact this
end
end KN
end
section
set_option Elab.async false
set_option linter.all false
set_option maxRecDepth 100000
set_option maxHeartbeats 4000000
set_option pp.maxSteps 1500
set_option pp.deepTerms false
local macro_rules | `(tactic| walk_at "ne") => `(tactic| first
  | assumption | (apply Ne.symm; assumption)
  | exact R.ne_new (by assumption) | exact (R.ne_new (by assumption)).symm
  | exact L2.ne_of_none (by assumption) (by assumption) | exact (L2.ne_of_none (by assumption) (by assumption)).symm
  | exact L2.ne_of_none (by assumption) (R.free_new (by assumption)) | exact (L2.ne_of_none (by assumption) (R.free_new (by assumption))).symm)
local macro_rules | `(tactic| walk_at "at") => `(tactic| first
  | assumption | exact L2.upd_same
  | (refine R.sb (H := ?H) (p := ?p) ?e ?n ?h; (case e => assumption); (case n => walk_at "ne"); (case h => walk_at "at"))
  | (refine R.sm (H := ?H) ?e ?h; (case e => assumption); (case h => walk_at "at"))
  | (refine Eq.trans (L2.upd_ne ?_) ?_ <;> first | walk_at "ne" | walk_at "at"))
local macro_rules | `(tactic| walk_at "sqt") => `(tactic| first | assumption | (refine L2.SqT.of ?_; walk_at "at"))
local macro_rules | `(tactic| walk_at "ty") => `(tactic| first | exact R.tyN | exact R.tyB | exact R.tyI | exact R.tyS | (refine R.tyT (xs := ?xs) ?h; case h => walk_at "at") | (refine R.tyL (xs := ?xs) ?h; case h => walk_at "at"))
local macro_rules | `(tactic| walk_at "kit") => `(tactic| first | exact R.kit_NoneType_tuple | exact R.kit_NoneType_list | exact R.kit_NoneType_bool | exact R.kit_NoneType_str | exact R.kit_NoneType_int | exact R.kit_bool_tuple | exact R.kit_bool_list | exact R.kit_bool_bool | exact R.kit_bool_str | exact R.kit_bool_int | exact R.kit_int_tuple | exact R.kit_int_list | exact R.kit_int_bool | exact R.kit_int_str | exact R.kit_int_int | exact R.kit_str_tuple | exact R.kit_str_list | exact R.kit_str_bool | exact R.kit_str_str | exact R.kit_str_int | exact R.kit_tuple_tuple | exact R.kit_tuple_list | exact R.kit_tuple_bool | exact R.kit_tuple_str | exact R.kit_tuple_int | exact R.kit_list_tuple | exact R.kit_list_list | exact R.kit_list_bool | exact R.kit_list_str | exact R.kit_list_int)
local macro_rules | `(tactic| walk_at "sz") => `(tactic| first | assumption | (refine Nat.le_trans ?_ (show 1000 ≤ PySem.sizeLine by decide); omega) | decide)
local macro_rules | `(tactic| walk_at "szl") => `(tactic| first | assumption | exact Nat.le_of_lt (L2.small1000 (by omega)) | decide | decide +kernel)
local macro_rules | `(tactic| walk_at "sys") => `(tactic| first | assumption | exact KN.SysAt.same (by assumption) (by assumption))
local macro_rules | `(tactic| walk_at "dk") => `(tactic| first | exact R.rowsS _ _ | exact R.rowsM _ _)
local macro_rules | `(tactic| walk_at "sqa") => `(tactic| first | assumption | exact R.SeqA.same (by assumption) (by assumption) | exact R.SeqA.new (by assumption) (by assumption) | (exact Or.inl (by walk_at "at")) | (exact Or.inr (by walk_at "at")))
local macro_rules | `(tactic| walk_at "ix") => `(tactic| first | rfl | (exact L2.atI_nat (by assumption)) | assumption)
local macro_rules | `(tactic| walk_at "cond") => `(tactic| first
  | exact Or.inl (by decide) | exact Or.inr (by decide) | exact Or.inl ⟨by omega, by omega⟩ | exact Or.inr ⟨by omega, by omega⟩
  | (constructor <;> omega) | (show _ ≠ _; omega) | decide | omega)
local macro_rules | `(tactic| walk_at "r1") => `(tactic| first
  | with_reducible refine R.seq ?_ | with_reducible refine R.asg ?_ | with_reducible refine R.ifs ?_ | with_reducible refine R.ret ?_ | with_reducible refine R.retN ?_ | with_reducible refine R.drop ?_ | with_reducible refine R.next ?_
  | with_reducible refine R.op ?_ | ((with_reducible refine R.var (v := ?v) ?h ?q); case h => rfl) | with_reducible refine R.c ?_ | with_reducible refine R.tst ?_ | with_reducible refine R.tb_ ?_ | with_reducible refine R.ex ?_
  | with_reducible refine R.i0 ?_ | with_reducible refine R.eqI ?_ | with_reducible refine R.neI ?_ | ((with_reducible refine R.ic ?_ ?_); · walk_at "cond") | with_reducible refine R.u0 ?_ | with_reducible refine R.un ?_
  | ((with_reducible refine R.eq ?_ ?_); · rfl) | ((with_reducible refine R.ne ?_ ?_); · rfl)
  | with_reducible refine R.and_ ?_ | with_reducible refine R.or_ ?_ | with_reducible refine R.not_ ?_ | with_reducible refine R.ife ?_ | with_reducible refine R.chain ?_
  | with_reducible refine R.cons ?_ | with_reducible refine R.nil ?_ | with_reducible refine R.call ?_ | with_reducible refine R.cb ?_ | with_reducible refine R.bm ?_
  | with_reducible refine R.gname ?_ | with_reducible refine R.gsub ?_ | with_reducible refine R.gnil ?_ | with_reducible refine R.gcons ?_ | with_reducible refine R.yes ?_
  | with_reducible refine R.int1 ?_ | ((with_reducible refine R.lenL (xs := ?xs) ?h ?q); case h => walk_at "at")
  | ((with_reducible refine R.ixL (xs := ?xs) (v := ?v) ?h ?e ?q); (case h => walk_at "at"); (case e => walk_at "ix"))
  | ((with_reducible refine R.setL (xs := ?xs) (n := ?n) ?h ?e ?q); (case h => walk_at "at"); (case e => rfl))
  | ((with_reducible refine R.append (xs := ?xs) ?h ?e ?q); (case h => walk_at "at"); (case e => walk_at "cond"))
  | with_reducible refine R.is_ ?_ | with_reducible refine R.isnot ?_ | with_reducible refine R.andV ?_ | with_reducible refine R.orV ?_ | with_reducible refine R.notV ?_
  | ((with_reducible refine R.isi (s := ?s) (b := ?b) ?ty ?h ?q); (case ty => walk_at "ty"); (case h => walk_at "kit"))
  | ((with_reducible refine R.addS ?h ?q); (case h => walk_at "sz")) | with_reducible refine R.max2 ?_ | with_reducible refine R.min2 ?_
  | ((with_reducible refine R.lenStr ?h ?q); (case h => walk_at "szl")) | ((with_reducible refine R.ixS (n := ?n) ?h ?e ?q); (case h => walk_at "szl"); (case e => walk_at "ix"))
  | ((with_reducible refine R.tyl (xs := ?xs) ?h ?q); (case h => walk_at "at")) | with_reducible refine R.itlist ?_ | with_reducible refine R.ittup ?_ | with_reducible refine R.m1 ?_ | with_reducible refine R.m1s ?_ | with_reducible refine R.leS ?_ | with_reducible refine R.itstr ?_ | with_reducible refine R.itstrE ?_ | with_reducible refine R.lc ?_ | with_reducible refine R.lc2 ?_ | with_reducible refine R.ckw ?_ | with_reducible refine R.par ?_ | with_reducible refine R.parE ?_ | with_reducible refine R.itrev ?_ | with_reducible refine R.dsetd ?_ | with_reducible refine R.dnotin_ ?_ | with_reducible refine R.for_ ?_ | ((with_reducible refine R.all_ (bs := ?bs) ?h ?q); (case h => walk_at "at"))
  | with_reducible refine R.rng1 ?_ | ((with_reducible refine R.rngE ?h ?q); (case h => (constructor <;> omega)))
  | ((with_reducible refine R.lenT (xs := ?xs) ?h ?q); (case h => walk_at "sqt")) | ((with_reducible refine R.ixT (xs := ?xs) (v := ?v) ?h ?e ?q); (case h => walk_at "sqt"); (case e => walk_at "ix"))
  | ((refine R.itlE (xs := ?xs) ?h ?q); (case h => walk_at "at")) | ((refine R.ittE (xs := ?xs) ?h ?q); (case h => walk_at "at"))
  | ((refine R.gseq (xs := ?xs) ?h ?e ?q); (case h => walk_at "sqa"); (case e => rfl)) | ((refine R.ixA (xs := ?xs) (v := ?v) ?h ?e ?q); (case h => walk_at "sqa"); (case e => walk_at "ix")) | ((refine R.lenA (xs := ?xs) ?h ?q); (case h => walk_at "sqa"))
  | ((with_reducible refine R.gtup (xs := ?xs) ?h ?e ?q); (case h => walk_at "sqt"); (case e => rfl))
  | with_reducible refine R.din_ ?_ | with_reducible refine R.dput_ ?_
  | with_reducible refine R.dget2_ ?_ | ((with_reducible refine R.aug_ (x := ?x) ?h ?q); case h => rfl) | with_reducible refine R.ipI_ ?_
  | with_reducible refine R.rng2 ?_ | ((with_reducible refine R.rngE2 ?h ?q); (case h => (refine ⟨?_, ?_, ?_, ?_⟩ <;> omega)))
  | with_reducible refine R.brk ?_ | with_reducible refine R.intB ?_ | with_reducible refine R.meth_ ?_ | ((refine KN.methS (rs := ?rs) (ms := ?ms) ?h (fun _ _ _ _ => rfl) ?q); case h => walk_at "sys")
  | with_reducible refine R.sl_ ?_ | with_reducible refine R.np_ ?_ | with_reducible refine R.pt_ ?_ | with_reducible refine R.ptE ?_ | with_reducible refine R.dget_ ?_ | with_reducible refine R.revL_ ?_
  | ((refine R.dgetS (kvs := ?kvs) (v := ?v) ?h ?e ?q); (case h => walk_at "at"); (case e => walk_at "dk"))
  | with_reducible refine R.sfld ?_ | with_reducible refine R.fld_ ?_ | with_reducible refine R.dc ?_
  | with_reducible refine R.dget1_ ?_
  | with_reducible refine R.itseq ?_ | with_reducible refine R.itenum ?_
  | with_reducible refine R.itT ?_ | with_reducible refine R.itF ?_ | with_reducible refine R.itNT ?_ | with_reducible refine R.itNF ?_
  | (with_reducible refine R.tup ?_) | (with_reducible refine R.lst ?_))
local macro_rules | `(tactic| walk_at "rd") => `(tactic| (repeat (first | walk_at "r1" | (dsimp only [Int.reduceToNat, List.set_cons_succ, List.set_cons_zero, List.length_cons, List.length_nil, List.nil_append, List.cons_append, List.append_nil]))))
local macro_rules | `(tactic| walk_at "go") => `(tactic| (rw [R.start_eq]; dsimp only [R.startE, List.map_nil]; walk_at "rd"))
namespace KN
open PySem L2 SX C8 R
section
variable {P : Program} {w : World} {K : PySem.W.Frag} {mg : Str → Option Value} {base : Heap}
def GoodW (z : Str) : Prop := ∃ cs : List Nat, z = S cs ∧ 1 ≤ cs.length ∧ cs.length ≤ 8 ∧ ∀ c ∈ cs, 97 ≤ c ∧ c ≤ 122
/-- all that stood stands but p and q -/
def SameBut2 (p q : Addr) (H H' : Hp) : Prop := ∀ b o, b ≠ p → b ≠ q → H b = some o → H' b = some o
theorem PoolAt.new {H : Hp} {p l t : Addr} {o : HO} (h : PoolAt H p l) (n : H t = none) : PoolAt (upd H t o) p l := by
  obtain ⟨⟨cs, i, d, s, h1, h2, h3⟩, h4⟩ := h
  exact ⟨⟨cs, i, d, s, by rw [upd_ne (ne_of_none h1 n)]; exact h1, by rw [upd_ne (ne_of_none h2 n)]; exact h2, h3⟩, h4⟩
/-- another object is changed -/
theorem PoolAt.put {H : Hp} {p l t : Addr} {o : HO} (h : PoolAt H p l) (n1 : t ≠ p) (n2 : t ≠ l) : PoolAt (upd H t o) p l := by
  obtain ⟨⟨cs, i, d, s, h1, h2, h3⟩, h4⟩ := h
  exact ⟨⟨cs, i, d, s, by rw [upd_ne n1.symm]; exact h1, by rw [upd_ne n2.symm]; exact h2, h3⟩, h4⟩
theorem PoolAt.same {H H' : Hp} {p l : Addr} (h : PoolAt H p l) (s : Same H H') : PoolAt H' p l := by
  obtain ⟨⟨cs, i, d, z, h1, h2, h3⟩, h4⟩ := h
  exact ⟨⟨cs, i, d, z, s _ _ h1, s _ _ h2, h3⟩, h4⟩
theorem PoolAt.nep {H : Hp} {p l t : Addr} (h : PoolAt H p l) (n : H t = none) : t ≠ p ∧ t ≠ l := by
  obtain ⟨⟨cs, i, d, s, h1, h2, h3⟩, h4⟩ := h
  exact ⟨(ne_of_none h1 n).symm, (ne_of_none h2 n).symm⟩
theorem r_take {H : Hp} {Q : VK} {E : XK} {p l : Addr} {m : Int} (h : PoolAt H p l) (h1 : 1 ≤ m) (h2 : m ≤ 100000000) (q : ∀ H' d, SameBut p H H' → PoolAt H' p l → 0 ≤ d → d < m → Q (.int d) H') : spTake ([.ref p, .int m] ++ []) H Q E := ⟨p, l, m, rfl, h, h1, h2, q⟩
theorem r_take' {H : Hp} {Q : VK} {E : XK} {p l : Addr} {m : Int} (h : PoolAt H p l) (h1 : 1 ≤ m) (h2 : m ≤ 100000000) (q : ∀ H' d, SameBut p H H' → PoolAt H' p l → 0 ≤ d → d < m → Q (.int d) H') : spTake [.ref p, .int m] H Q E := ⟨p, l, m, rfl, h, h1, h2, q⟩
theorem okW_of {z : Str} (h : GoodW z) : okWord z = true := by
  obtain ⟨cs, rfl, h1, h2, h3⟩ := h
  unfold okWord
  rw [S_len]
  simp only [Bool.and_eq_true, decide_eq_true_eq, List.all_eq_true]
  refine ⟨⟨by omega, by omega⟩, fun c hc => ?_⟩
  have := h3 c hc
  unfold okSign
  simp only [Bool.and_eq_true, decide_eq_true_eq]
  exact this
theorem letters_all : ∀ n, n < 26 → (Str.ofString "abcdefghijklmnopqrstuvwxyz").cps.toList[n]? = some (97 + n) := by decide +kernel
theorem atI_pos {α : Type} {xs : List α} {z : Int} {v : α} (e : 0 ≤ z) (h : xs[z.toNat]? = some v) : atI xs z = some v := by
  have e' : z = ((z.toNat : Nat) : Int) := by omega
  rw [e']; exact atI_nat h
theorem letters_at {d : Int} (h0 : 0 ≤ d) (h1 : d < 26) : atI (Str.ofString "abcdefghijklmnopqrstuvwxyz").cps.toList d = some (97 + d.toNat) := atI_pos h0 (letters_all d.toNat (by omega))
/-- a row of simple words; of multipliers -/
structure SR where
  w : Str
  v : Int
structure MR where
  w : Str
  v : Int
  c : Option Int
  u : Bool
  r : Int
def ocnt : Option Int → V
  | none => .non
  | some i => .int i
def srV (r : SR) : List V := [.str r.w, .int r.v]
def mrV (m : MR) : List V := [.str m.w, .int m.v, ocnt m.c, .bl m.u, .int m.r]
structure GoodS (r : SR) : Prop where
  w : GoodW r.w
  lo : 1 ≤ r.v
  hi : r.v ≤ 100000
structure GoodM (m : MR) : Prop where
  w : GoodW m.w
  lo : 2 ≤ m.v
  hi : m.v ≤ 100000
  c : ∀ c, m.c = some c → 1 ≤ c ∧ c ≤ 100000 ∧ c * m.v + m.r ≤ 100000
  r0 : 0 ≤ m.r
  r1 : m.r < m.v
theorem ocnt_non (c : Option Int) : ocnt c = .non ↔ c.isNone = true := by
  cases c with
  | none => exact ⟨fun _ => rfl, fun _ => rfl⟩
  | some i => exact ⟨fun h => (nomatch (show V.int i = V.non from h)), fun h => nomatch h⟩
/-- the items are tuples of these -/
inductive TupsAt (H : Hp) : List V → List (List V) → Prop
  | nil : TupsAt H [] []
  | cons {a : Addr} {xs : List V} {d : List V} {ds : List (List V)} : H a = some (.tup d) → TupsAt H xs ds → TupsAt H (.ref a :: xs) (d :: ds)
def TupKeep (H H' : Hp) : Prop := ∀ a d, H a = some (.tup d) → H' a = some (.tup d)
theorem TupsAt.keep {H H' : Hp} (k : TupKeep H H') : ∀ {xs ds}, TupsAt H xs ds → TupsAt H' xs ds
  | _, _, .nil => .nil
  | _, _, .cons h t => .cons (k _ _ h) (TupsAt.keep k t)
theorem TupsAt.snoc {H : Hp} {a : Addr} {d : List V} (h : H a = some (.tup d)) : ∀ {xs ds}, TupsAt H xs ds → TupsAt H (xs ++ [.ref a]) (ds ++ [d])
  | _, _, .nil => .cons h .nil
  | _, _, .cons h' t => .cons h' (TupsAt.snoc h t)
theorem TupsAt.len {H : Hp} : ∀ {xs ds}, TupsAt H xs ds → xs.length = ds.length
  | _, _, .nil => rfl
  | _, _, .cons _ t => by rw [List.length_cons, List.length_cons, TupsAt.len t]
theorem TupsAt.get {H : Hp} : ∀ {xs ds}, TupsAt H xs ds → ∀ (i : Nat) (d : List V), ds[i]? = some d → ∃ a, xs[i]? = some (.ref a) ∧ H a = some (.tup d)
  | _, _, .nil, i, d, h => by simp at h
  | _, _, .cons h t, 0, d, e => by
    cases e
    exact ⟨_, rfl, h⟩
  | _, _, .cons h t, i + 1, d, e => TupsAt.get t i d e
theorem keep_new {H : Hp} {a : Addr} {o : HO} (n : H a = none) : TupKeep H (upd H a o) := fun b d h => by rw [upd_ne (ne_of_none h n)]; exact h
theorem keep_list {H : Hp} {a : Addr} {o : HO} {xs : List V} (n : H a = some (.lst xs)) : TupKeep H (upd H a o) := fun b d h => by
  rw [upd_ne (ne_of h n (by intro z; cases z))]; exact h
theorem keep_pool {H H' : Hp} {p l : Addr} (h : PoolAt H p l) (s : SameBut p H H') : TupKeep H H' := fun b d e => by
  obtain ⟨⟨cs, i, dd, z, h1, h2⟩, h4⟩ := h
  exact s b _ (ne_of e h1 (by intro z; cases z)) e
theorem keep_2 {H H' : Hp} {p l q : Addr} {xs : List V} (h : PoolAt H p l) (hq : H q = some (.lst xs)) (s : SameBut2 p q H H') : TupKeep H H' := fun b d e => by
  obtain ⟨⟨cs, i, dd, z, h1, h2⟩, h4⟩ := h
  exact s b _ (ne_of e h1 (by intro z; cases z)) (ne_of e hq (by intro z; cases z)) e
theorem keep_trans {H H1 H2 : Hp} (a : TupKeep H H1) (b : TupKeep H1 H2) : TupKeep H H2 := fun c d h => b c d (a c d h)
theorem nodup_snoc {α : Type} {l : List α} {a : α} (h : l.Nodup) (n : a ∉ l) : (l ++ [a]).Nodup := by
  rw [List.nodup_append]
  exact ⟨h, by simp, fun x hx y hy e => by rw [List.mem_singleton.mp hy] at e; exact n (e ▸ hx)⟩
end
end KN
end
section
set_option Elab.async false
set_option linter.all false
set_option maxRecDepth 100000
set_option maxHeartbeats 4000000
set_option pp.maxSteps 1500
set_option pp.deepTerms false
local macro_rules | `(tactic| walk_at "ne") => `(tactic| first
  | assumption | (apply Ne.symm; assumption)
  | exact R.ne_new (by assumption) | exact (R.ne_new (by assumption)).symm
  | exact L2.ne_of_none (by assumption) (by assumption) | exact (L2.ne_of_none (by assumption) (by assumption)).symm
  | exact L2.ne_of_none (by assumption) (R.free_new (by assumption)) | exact (L2.ne_of_none (by assumption) (R.free_new (by assumption))).symm)
local macro_rules | `(tactic| walk_at "at") => `(tactic| first
  | assumption | exact L2.upd_same
  | (refine R.sb (H := ?H) (p := ?p) ?e ?n ?h; (case e => assumption); (case n => walk_at "ne"); (case h => walk_at "at"))
  | (refine R.sm (H := ?H) ?e ?h; (case e => assumption); (case h => walk_at "at"))
  | (refine Eq.trans (L2.upd_ne ?_) ?_ <;> first | walk_at "ne" | walk_at "at"))
local macro_rules | `(tactic| walk_at "sqt") => `(tactic| first | assumption | (refine L2.SqT.of ?_; walk_at "at"))
local macro_rules | `(tactic| walk_at "ty") => `(tactic| first | exact R.tyN | exact R.tyB | exact R.tyI | exact R.tyS | (refine R.tyT (xs := ?xs) ?h; case h => walk_at "at") | (refine R.tyL (xs := ?xs) ?h; case h => walk_at "at"))
local macro_rules | `(tactic| walk_at "kit") => `(tactic| first | exact R.kit_NoneType_tuple | exact R.kit_NoneType_list | exact R.kit_NoneType_bool | exact R.kit_NoneType_str | exact R.kit_NoneType_int | exact R.kit_bool_tuple | exact R.kit_bool_list | exact R.kit_bool_bool | exact R.kit_bool_str | exact R.kit_bool_int | exact R.kit_int_tuple | exact R.kit_int_list | exact R.kit_int_bool | exact R.kit_int_str | exact R.kit_int_int | exact R.kit_str_tuple | exact R.kit_str_list | exact R.kit_str_bool | exact R.kit_str_str | exact R.kit_str_int | exact R.kit_tuple_tuple | exact R.kit_tuple_list | exact R.kit_tuple_bool | exact R.kit_tuple_str | exact R.kit_tuple_int | exact R.kit_list_tuple | exact R.kit_list_list | exact R.kit_list_bool | exact R.kit_list_str | exact R.kit_list_int)
local macro_rules | `(tactic| walk_at "sz") => `(tactic| first | assumption | (refine Nat.le_trans ?_ (show 1000 ≤ PySem.sizeLine by decide); omega) | decide)
local macro_rules | `(tactic| walk_at "szl") => `(tactic| first | assumption | exact Nat.le_of_lt (L2.small1000 (by omega)) | decide | decide +kernel)
local macro_rules | `(tactic| walk_at "sys") => `(tactic| first | assumption | exact KN.SysAt.same (by assumption) (by assumption))
local macro_rules | `(tactic| walk_at "dk") => `(tactic| first | exact R.rowsS _ _ | exact R.rowsM _ _)
local macro_rules | `(tactic| walk_at "sqa") => `(tactic| first | assumption | exact R.SeqA.same (by assumption) (by assumption) | exact R.SeqA.new (by assumption) (by assumption) | (exact Or.inl (by walk_at "at")) | (exact Or.inr (by walk_at "at")))
local macro_rules | `(tactic| walk_at "ix") => `(tactic| first | rfl | (exact L2.atI_nat (by assumption)) | assumption)
local macro_rules | `(tactic| walk_at "cond") => `(tactic| first
  | exact Or.inl (by decide) | exact Or.inr (by decide) | exact Or.inl ⟨by omega, by omega⟩ | exact Or.inr ⟨by omega, by omega⟩
  | (constructor <;> omega) | (show _ ≠ _; omega) | decide | omega)
local macro_rules | `(tactic| walk_at "r1") => `(tactic| first
  | with_reducible refine R.seq ?_ | with_reducible refine R.asg ?_ | with_reducible refine R.ifs ?_ | with_reducible refine R.ret ?_ | with_reducible refine R.retN ?_ | with_reducible refine R.drop ?_ | with_reducible refine R.next ?_
  | with_reducible refine R.op ?_ | ((with_reducible refine R.var (v := ?v) ?h ?q); case h => rfl) | with_reducible refine R.c ?_ | with_reducible refine R.tst ?_ | with_reducible refine R.tb_ ?_ | with_reducible refine R.ex ?_
  | with_reducible refine R.i0 ?_ | with_reducible refine R.eqI ?_ | with_reducible refine R.neI ?_ | ((with_reducible refine R.ic ?_ ?_); · walk_at "cond") | with_reducible refine R.u0 ?_ | with_reducible refine R.un ?_
  | ((with_reducible refine R.eq ?_ ?_); · rfl) | ((with_reducible refine R.ne ?_ ?_); · rfl)
  | with_reducible refine R.and_ ?_ | with_reducible refine R.or_ ?_ | with_reducible refine R.not_ ?_ | with_reducible refine R.ife ?_ | with_reducible refine R.chain ?_
  | with_reducible refine R.cons ?_ | with_reducible refine R.nil ?_ | with_reducible refine R.call ?_ | with_reducible refine R.cb ?_ | with_reducible refine R.bm ?_
  | with_reducible refine R.gname ?_ | with_reducible refine R.gsub ?_ | with_reducible refine R.gnil ?_ | with_reducible refine R.gcons ?_ | with_reducible refine R.yes ?_
  | with_reducible refine R.int1 ?_ | ((with_reducible refine R.lenL (xs := ?xs) ?h ?q); case h => walk_at "at")
  | ((with_reducible refine R.ixL (xs := ?xs) (v := ?v) ?h ?e ?q); (case h => walk_at "at"); (case e => walk_at "ix"))
  | ((with_reducible refine R.setL (xs := ?xs) (n := ?n) ?h ?e ?q); (case h => walk_at "at"); (case e => rfl))
  | ((with_reducible refine R.append (xs := ?xs) ?h ?e ?q); (case h => walk_at "at"); (case e => walk_at "cond"))
  | with_reducible refine R.is_ ?_ | with_reducible refine R.isnot ?_ | with_reducible refine R.andV ?_ | with_reducible refine R.orV ?_ | with_reducible refine R.notV ?_
  | ((with_reducible refine R.isi (s := ?s) (b := ?b) ?ty ?h ?q); (case ty => walk_at "ty"); (case h => walk_at "kit"))
  | ((with_reducible refine R.addS ?h ?q); (case h => walk_at "sz")) | with_reducible refine R.max2 ?_ | with_reducible refine R.min2 ?_
  | ((with_reducible refine R.lenStr ?h ?q); (case h => walk_at "szl")) | ((with_reducible refine R.ixS (n := ?n) ?h ?e ?q); (case h => walk_at "szl"); (case e => walk_at "ix"))
  | ((with_reducible refine R.tyl (xs := ?xs) ?h ?q); (case h => walk_at "at")) | with_reducible refine R.itlist ?_ | with_reducible refine R.ittup ?_ | with_reducible refine R.m1 ?_ | with_reducible refine R.m1s ?_ | with_reducible refine R.leS ?_ | with_reducible refine R.itstr ?_ | with_reducible refine R.itstrE ?_ | with_reducible refine R.lc ?_ | with_reducible refine R.lc2 ?_ | with_reducible refine R.ckw ?_ | with_reducible refine R.par ?_ | with_reducible refine R.parE ?_ | with_reducible refine R.itrev ?_ | with_reducible refine R.dsetd ?_ | with_reducible refine R.dnotin_ ?_ | with_reducible refine R.for_ ?_ | ((with_reducible refine R.all_ (bs := ?bs) ?h ?q); (case h => walk_at "at"))
  | with_reducible refine R.rng1 ?_ | ((with_reducible refine R.rngE ?h ?q); (case h => (constructor <;> omega)))
  | ((with_reducible refine R.lenT (xs := ?xs) ?h ?q); (case h => walk_at "sqt")) | ((with_reducible refine R.ixT (xs := ?xs) (v := ?v) ?h ?e ?q); (case h => walk_at "sqt"); (case e => walk_at "ix"))
  | ((refine R.itlE (xs := ?xs) ?h ?q); (case h => walk_at "at")) | ((refine R.ittE (xs := ?xs) ?h ?q); (case h => walk_at "at"))
  | ((refine R.gseq (xs := ?xs) ?h ?e ?q); (case h => walk_at "sqa"); (case e => rfl)) | ((refine R.ixA (xs := ?xs) (v := ?v) ?h ?e ?q); (case h => walk_at "sqa"); (case e => walk_at "ix")) | ((refine R.lenA (xs := ?xs) ?h ?q); (case h => walk_at "sqa"))
  | ((with_reducible refine R.gtup (xs := ?xs) ?h ?e ?q); (case h => walk_at "sqt"); (case e => rfl))
  | with_reducible refine R.din_ ?_ | with_reducible refine R.dput_ ?_
  | with_reducible refine R.dget2_ ?_ | ((with_reducible refine R.aug_ (x := ?x) ?h ?q); case h => rfl) | with_reducible refine R.ipI_ ?_
  | with_reducible refine R.rng2 ?_ | ((with_reducible refine R.rngE2 ?h ?q); (case h => (refine ⟨?_, ?_, ?_, ?_⟩ <;> omega)))
  | with_reducible refine R.brk ?_ | with_reducible refine R.intB ?_ | with_reducible refine R.meth_ ?_ | ((refine KN.methS (rs := ?rs) (ms := ?ms) ?h (fun _ _ _ _ => rfl) ?q); case h => walk_at "sys")
  | with_reducible refine R.sl_ ?_ | with_reducible refine R.np_ ?_ | with_reducible refine R.pt_ ?_ | with_reducible refine R.ptE ?_ | with_reducible refine R.dget_ ?_ | with_reducible refine R.revL_ ?_
  | ((refine R.dgetS (kvs := ?kvs) (v := ?v) ?h ?e ?q); (case h => walk_at "at"); (case e => walk_at "dk"))
  | with_reducible refine R.sfld ?_ | with_reducible refine R.fld_ ?_ | with_reducible refine R.dc ?_
  | with_reducible refine R.dget1_ ?_
  | with_reducible refine R.itseq ?_ | with_reducible refine R.itenum ?_
  | with_reducible refine R.itT ?_ | with_reducible refine R.itF ?_ | with_reducible refine R.itNT ?_ | with_reducible refine R.itNF ?_
  | (with_reducible refine R.tup ?_) | (with_reducible refine R.lst ?_))
local macro_rules | `(tactic| walk_at "rd") => `(tactic| (repeat (first | walk_at "r1" | (dsimp only [Int.reduceToNat, List.set_cons_succ, List.set_cons_zero, List.length_cons, List.length_nil, List.nil_append, List.cons_append, List.append_nil]))))
local macro_rules | `(tactic| walk_at "go") => `(tactic| (rw [R.start_eq]; dsimp only [R.startE, List.map_nil]; walk_at "rd"))
namespace KN
open PySem L2 SX R
open C8 (Cal Def cal0 pe_c pe_gc fnScope fnBody)
section
variable {P : Program} {w : World} {K : PySem.W.Frag} {mg : Str → Option Value} {base : Heap}
abbrev sSfault : Stmt := top 16
theorem scSfault : FnScope ["row", "word", "value"] ["row"] (fnScope sSfault) := ⟨rfl, rfl, rfl, by decide +kernel, rfl, by decide +kernel, by decide +kernel⟩
abbrev sMfault : Stmt := top 17
theorem scMfault : FnScope ["row", "word", "value", "count", "_", "rest"] ["row"] (fnScope sMfault) := ⟨rfl, rfl, rfl, by decide +kernel, rfl, by decide +kernel, by decide +kernel⟩
/-- what is wrong with a simple row -/
def sfc (z : Str) (v : Int) : Option Str := if okWord z = true then (if 1 ≤ v ∧ v ≤ 100000 then none else some "value") else some "word"
def sF : List V → Option Str
  | [.str z, .int v] => sfc z v
  | _ => some "length"
inductive SShape : List V → Prop
  | no {d : List V} (h : d.length ≠ 2) : SShape d
  | yes (z : Str) (v : Int) (h : z.length ≤ 1000) : SShape [.str z, .int v]
def oS : Option Str → V
  | none => .non
  | some z => .str z
def spSf : Sp := fun vs H Q _ => ∃ (a : Addr) (d : List V), vs = [.ref a] ∧ SeqA H a d ∧ SShape d ∧ ∀ H', Same H H' → Q (oS (sF d)) H'
theorem c_simple_fault (Z : Zs mg) (C : Cs mg) (c_is_word : Cal P w K mg base 1 "is_word" spIsword []) {f : Addr} {fd : FuncData} (F : Def K mg "simple_fault" sSfault f fd) (b : Binds K fd ["row"] []) : Cal P w K mg base 2 "simple_fault" spSf [] := by
  refine cal0 F b .nil scSfault (fun vs H Q E h => ?_) (fun cdv A outer s H vs Q E hr h => ?_)
  · obtain ⟨a, d, rfl, _⟩ := h
    rfl
  · obtain ⟨a, d, rfl, ha, hd, k⟩ := h
    refine ⟨_, pss_cons (ps_if (pt_cmpR op_ne (pe_callB (kLen K) (by rfl) Z.len PySem.boot_len (pa_cons (pv 0) pa_nil)) pe_int (nomark _))
        (pss_one (ps_ret pe_str))
        (pss_nil))
      (pss_cons (ps_asg (pv 0) (kgSeq K (n := 2) rfl (pgs_cons (pg_name (i := 1) scSfault.nd rfl (Or.inl rfl)) (pgs_cons (pg_name (i := 2) scSfault.nd rfl (Or.inl rfl)) pgs_nil))))
      (pss_cons (ps_if (pt_not (pt_val (pe_c c_is_word hr (by omega) (by rfl) (pa_cons (pv 1) pa_nil))))
        (pss_one (ps_ret pe_str))
        (pss_nil))
      (pss_cons (ps_if (pt_not (pt_chain op_le op_le pe_int (pv 2) (pe_gc (by rfl) C.GREATEST)))
        (pss_one (ps_ret pe_str))
        (pss_nil))
      (pss_one (ps_ret pe_non))))), ?_⟩
    cases hd with
    | no h =>
      walk_at "go"
      refine itn (fun _ => ?_) (fun z => absurd z (by omega))
      walk_at "rd"
      have e : sF d = some "length" := by
        unfold sF
        split
        · exact absurd rfl h
        · rfl
      have k' := k H (Same.refl H)
      rw [e] at k'
      exact k'
    | yes z v h =>
      walk_at "go"
      refine itn (fun q => absurd rfl q) (fun _ => ?_)
      walk_at "rd"
      refine ⟨z, rfl, h, fun H1 s1 => ?_⟩
      have k' : Q (oS (sfc z v)) H1 := k H1 s1
      unfold sfc at k'
      walk_at "rd"
      refine itBn (fun h1 => ?_) (fun h1 => ?_)
      · rw [if_neg (by rw [h1]; exact Bool.false_ne_true)] at k'
        walk_at "rd"
        exact k'
      · rw [if_pos h1] at k'
        walk_at "rd"
        refine it (fun h2 => ?_) (fun h2 => ?_)
        · walk_at "rd"
          refine itn (fun h3 => ?_) (fun h3 => ?_)
          · rw [if_neg (by omega)] at k'
            walk_at "rd"
            exact k'
          · rw [if_pos (by omega)] at k'
            walk_at "rd"
            exact k'
        · rw [if_neg (by omega)] at k'
          walk_at "rd"
          exact k'
/-- what is wrong with a multiplier's row -/
def cOk : Option Int → Bool
  | none => true
  | some n => decide (1 ≤ n ∧ n ≤ 100000)
def lOk (v r : Int) : Option Int → Bool
  | none => true
  | some n => decide (n * v + r ≤ 100000)
def mfc (z : Str) (v : Int) (c : Option Int) (r : Int) : Option Str :=
  if okWord z = true then
    (if 2 ≤ v ∧ v ≤ 100000 then
      (if cOk c = true then (if 0 ≤ r ∧ r < v then (if lOk v r c = true then none else some "large") else some "rest") else some "count")
     else some "value")
  else some "word"
inductive MShape : List V → Option Str → Prop
  | no {d : List V} (h : d.length ≠ 5) : MShape d (some "length")
  | yes (z : Str) (v : Int) (c : Option Int) (u : Bool) (r : Int) (h : z.length ≤ 1000) : MShape [.str z, .int v, ocnt c, .bl u, .int r] (mfc z v c r)
def spMf : Sp := fun vs H Q _ => ∃ (a : Addr) (d : List V) (o : Option Str), vs = [.ref a] ∧ SeqA H a d ∧ MShape d o ∧ ∀ H', Same H H' → Q (oS o) H'
theorem c_multiplier_fault (Z : Zs mg) (C : Cs mg) (c_is_word : Cal P w K mg base 1 "is_word" spIsword []) {f : Addr} {fd : FuncData} (F : Def K mg "multiplier_fault" sMfault f fd) (b : Binds K fd ["row"] []) : Cal P w K mg base 2 "multiplier_fault" spMf [] := by
  refine cal0 F b .nil scMfault (fun vs H Q E h => ?_) (fun cdv A outer s H vs Q E hr h => ?_)
  · obtain ⟨a, d, o, rfl, _⟩ := h
    rfl
  · obtain ⟨a, d, o, rfl, ha, hd, k⟩ := h
    refine ⟨_, pss_cons (ps_if (pt_cmpR op_ne (pe_callB (kLen K) (by rfl) Z.len PySem.boot_len (pa_cons (pv 0) pa_nil)) pe_int (nomark _))
        (pss_one (ps_ret pe_str))
        (pss_nil))
      (pss_cons (ps_asg (pv 0) (kgSeq K (n := 5) rfl (pgs_cons (pg_name (i := 1) scMfault.nd rfl (Or.inl rfl)) (pgs_cons (pg_name (i := 2) scMfault.nd rfl (Or.inl rfl)) (pgs_cons (pg_name (i := 3) scMfault.nd rfl (Or.inl rfl)) (pgs_cons (pg_name (i := 4) scMfault.nd rfl (Or.inl rfl)) (pgs_cons (pg_name (i := 5) scMfault.nd rfl (Or.inl rfl)) pgs_nil)))))))
      (pss_cons (ps_if (pt_not (pt_val (pe_c c_is_word hr (by omega) (by rfl) (pa_cons (pv 1) pa_nil))))
        (pss_one (ps_ret pe_str))
        (pss_nil))
      (pss_cons (ps_if (pt_not (pt_chain op_le op_le pe_int (pv 2) (pe_gc (by rfl) C.GREATEST)))
        (pss_one (ps_ret pe_str))
        (pss_nil))
      (pss_cons (ps_if (PW.pt (pw_and (pt_cmpR oIsNot (pv 3) pe_non (nomark _)) (pw_and1 (pt_not (pt_chain op_le op_le pe_int (pv 3) (pe_gc (by rfl) C.GREATEST))))))
        (pss_one (ps_ret pe_str))
        (pss_nil))
      (pss_cons (ps_if (pt_not (pt_chain op_le op_lt pe_int (pv 5) (pv 2)))
        (pss_one (ps_ret pe_str))
        (pss_nil))
      (pss_cons (ps_if (PW.pt (pw_and (pt_cmpR oIsNot (pv 3) pe_non (nomark _)) (pw_and1 (pt_cmpR op_gt (pe_op op_add (pe_op op_mul (pv 3) (pv 2)) (pv 5)) (pe_gc (by rfl) C.GREATEST) (nomark _)))))
        (pss_one (ps_ret pe_str))
        (pss_nil))
      (pss_one (ps_ret pe_non)))))))), ?_⟩
    cases hd with
    | no h =>
      walk_at "go"
      refine itn (fun _ => ?_) (fun z => absurd z (by omega))
      walk_at "rd"
      exact k H (Same.refl H)
    | yes z v c u r h =>
      walk_at "go"
      refine itn (fun q => absurd rfl q) (fun _ => ?_)
      walk_at "rd"
      refine ⟨z, rfl, h, fun H1 s1 => ?_⟩
      have k' : Q (oS (mfc z v c r)) H1 := k H1 s1
      unfold mfc at k'
      walk_at "rd"
      refine itBn (fun h1 => ?_) (fun h1 => ?_)
      · rw [if_neg (by rw [h1]; exact Bool.false_ne_true)] at k'
        walk_at "rd"
        exact k'
      · rw [if_pos h1] at k'
        walk_at "rd"
        refine it (fun h2 => ?_) (fun h2 => ?_)
        · walk_at "rd"
          refine itn (fun h3 => ?_) (fun h3 => ?_)
          · rw [if_neg (by omega)] at k'
            walk_at "rd"
            exact k'
          · rw [if_pos (by omega)] at k'
            walk_at "rd"
            cases c with
            | none =>
              rw [if_pos (show cOk none = true from rfl)] at k'
              refine itn (fun q => absurd rfl q) (fun _ => ?_)
              walk_at "rd"
              refine it (fun h4 => ?_) (fun h4 => ?_)
              · walk_at "rd"
                refine itn (fun h5 => ?_) (fun h5 => ?_)
                · rw [if_neg (by omega)] at k'
                  walk_at "rd"
                  exact k'
                · rw [if_pos (by omega), if_pos (show lOk v r none = true from rfl)] at k'
                  walk_at "rd"
                  refine itn (fun q => absurd rfl q) (fun _ => ?_)
                  walk_at "rd"
                  exact k'
              · rw [if_neg (by omega)] at k'
                walk_at "rd"
                exact k'
            | some n =>
              rw [show ocnt (some n) = V.int n from rfl] at *
              have e1 : cOk (some n) = decide (1 ≤ n ∧ n ≤ 100000) := rfl
              have e2 : lOk v r (some n) = decide (n * v + r ≤ 100000) := rfl
              rw [e1, e2] at k'
              refine itn (fun _ => ?_) (fun q => nomatch q)
              walk_at "rd"
              refine it (fun h6 => ?_) (fun h6 => ?_)
              · walk_at "rd"
                refine itn (fun h7 => ?_) (fun h7 => ?_)
                · rw [if_neg (by rw [decide_eq_false (by omega)]; exact Bool.false_ne_true)] at k'
                  walk_at "rd"
                  exact k'
                · rw [if_pos (decide_eq_true (by omega))] at k'
                  walk_at "rd"
                  refine it (fun h4 => ?_) (fun h4 => ?_)
                  · walk_at "rd"
                    refine itn (fun h5 => ?_) (fun h5 => ?_)
                    · rw [if_neg (by omega)] at k'
                      walk_at "rd"
                      exact k'
                    · rw [if_pos (by omega)] at k'
                      walk_at "rd"
                      refine itn (fun _ => ?_) (fun q => nomatch q)
                      walk_at "rd"
                      refine it (fun h8 => ?_) (fun h8 => ?_)
                      · rw [if_neg (by rw [decide_eq_false (by omega)]; exact Bool.false_ne_true)] at k'
                        walk_at "rd"
                        exact k'
                      · rw [if_pos (decide_eq_true (by omega))] at k'
                        walk_at "rd"
                        exact k'
                  · rw [if_neg (by omega)] at k'
                    walk_at "rd"
                    exact k'
              · rw [if_neg (by rw [decide_eq_false (by omega)]; exact Bool.false_ne_true)] at k'
                walk_at "rd"
                exact k'
        · rw [if_neg (by omega)] at k'
          walk_at "rd"
          exact k'
end
end KN
end
section
set_option Elab.async false
set_option linter.all false
set_option maxRecDepth 100000
set_option maxHeartbeats 4000000
set_option pp.maxSteps 1500
set_option pp.deepTerms false
local macro_rules | `(tactic| walk_at "ne") => `(tactic| first
  | assumption | (apply Ne.symm; assumption)
  | exact R.ne_new (by assumption) | exact (R.ne_new (by assumption)).symm
  | exact L2.ne_of_none (by assumption) (by assumption) | exact (L2.ne_of_none (by assumption) (by assumption)).symm
  | exact L2.ne_of_none (by assumption) (R.free_new (by assumption)) | exact (L2.ne_of_none (by assumption) (R.free_new (by assumption))).symm)
local macro_rules | `(tactic| walk_at "at") => `(tactic| first
  | assumption | exact L2.upd_same
  | (refine R.sb (H := ?H) (p := ?p) ?e ?n ?h; (case e => assumption); (case n => walk_at "ne"); (case h => walk_at "at"))
  | (refine R.sm (H := ?H) ?e ?h; (case e => assumption); (case h => walk_at "at"))
  | (refine Eq.trans (L2.upd_ne ?_) ?_ <;> first | walk_at "ne" | walk_at "at"))
local macro_rules | `(tactic| walk_at "sqt") => `(tactic| first | assumption | (refine L2.SqT.of ?_; walk_at "at"))
local macro_rules | `(tactic| walk_at "ty") => `(tactic| first | exact R.tyN | exact R.tyB | exact R.tyI | exact R.tyS | (refine R.tyT (xs := ?xs) ?h; case h => walk_at "at") | (refine R.tyL (xs := ?xs) ?h; case h => walk_at "at"))
local macro_rules | `(tactic| walk_at "kit") => `(tactic| first | exact R.kit_NoneType_tuple | exact R.kit_NoneType_list | exact R.kit_NoneType_bool | exact R.kit_NoneType_str | exact R.kit_NoneType_int | exact R.kit_bool_tuple | exact R.kit_bool_list | exact R.kit_bool_bool | exact R.kit_bool_str | exact R.kit_bool_int | exact R.kit_int_tuple | exact R.kit_int_list | exact R.kit_int_bool | exact R.kit_int_str | exact R.kit_int_int | exact R.kit_str_tuple | exact R.kit_str_list | exact R.kit_str_bool | exact R.kit_str_str | exact R.kit_str_int | exact R.kit_tuple_tuple | exact R.kit_tuple_list | exact R.kit_tuple_bool | exact R.kit_tuple_str | exact R.kit_tuple_int | exact R.kit_list_tuple | exact R.kit_list_list | exact R.kit_list_bool | exact R.kit_list_str | exact R.kit_list_int)
local macro_rules | `(tactic| walk_at "sz") => `(tactic| first | assumption | (refine Nat.le_trans ?_ (show 1000 ≤ PySem.sizeLine by decide); omega) | decide)
local macro_rules | `(tactic| walk_at "szl") => `(tactic| first | assumption | exact Nat.le_of_lt (L2.small1000 (by omega)) | decide | decide +kernel)
local macro_rules | `(tactic| walk_at "sys") => `(tactic| first | assumption | exact KN.SysAt.same (by assumption) (by assumption))
local macro_rules | `(tactic| walk_at "dk") => `(tactic| first | exact R.rowsS _ _ | exact R.rowsM _ _)
local macro_rules | `(tactic| walk_at "sqa") => `(tactic| first | assumption | exact R.SeqA.same (by assumption) (by assumption) | exact R.SeqA.new (by assumption) (by assumption) | (exact Or.inl (by walk_at "at")) | (exact Or.inr (by walk_at "at")))
local macro_rules | `(tactic| walk_at "ix") => `(tactic| first | rfl | (exact L2.atI_nat (by assumption)) | assumption)
local macro_rules | `(tactic| walk_at "cond") => `(tactic| first
  | exact Or.inl (by decide) | exact Or.inr (by decide) | exact Or.inl ⟨by omega, by omega⟩ | exact Or.inr ⟨by omega, by omega⟩
  | (constructor <;> omega) | (show _ ≠ _; omega) | decide | omega)
local macro_rules | `(tactic| walk_at "r1") => `(tactic| first
  | with_reducible refine R.seq ?_ | with_reducible refine R.asg ?_ | with_reducible refine R.ifs ?_ | with_reducible refine R.ret ?_ | with_reducible refine R.retN ?_ | with_reducible refine R.drop ?_ | with_reducible refine R.next ?_
  | with_reducible refine R.op ?_ | ((with_reducible refine R.var (v := ?v) ?h ?q); case h => rfl) | with_reducible refine R.c ?_ | with_reducible refine R.tst ?_ | with_reducible refine R.tb_ ?_ | with_reducible refine R.ex ?_
  | with_reducible refine R.i0 ?_ | with_reducible refine R.eqI ?_ | with_reducible refine R.neI ?_ | ((with_reducible refine R.ic ?_ ?_); · walk_at "cond") | with_reducible refine R.u0 ?_ | with_reducible refine R.un ?_
  | ((with_reducible refine R.eq ?_ ?_); · rfl) | ((with_reducible refine R.ne ?_ ?_); · rfl)
  | with_reducible refine R.and_ ?_ | with_reducible refine R.or_ ?_ | with_reducible refine R.not_ ?_ | with_reducible refine R.ife ?_ | with_reducible refine R.chain ?_
  | with_reducible refine R.cons ?_ | with_reducible refine R.nil ?_ | with_reducible refine R.call ?_ | with_reducible refine R.cb ?_ | with_reducible refine R.bm ?_
  | with_reducible refine R.gname ?_ | with_reducible refine R.gsub ?_ | with_reducible refine R.gnil ?_ | with_reducible refine R.gcons ?_ | with_reducible refine R.yes ?_
  | with_reducible refine R.int1 ?_ | ((with_reducible refine R.lenL (xs := ?xs) ?h ?q); case h => walk_at "at")
  | ((with_reducible refine R.ixL (xs := ?xs) (v := ?v) ?h ?e ?q); (case h => walk_at "at"); (case e => walk_at "ix"))
  | ((with_reducible refine R.setL (xs := ?xs) (n := ?n) ?h ?e ?q); (case h => walk_at "at"); (case e => rfl))
  | ((with_reducible refine R.append (xs := ?xs) ?h ?e ?q); (case h => walk_at "at"); (case e => walk_at "cond"))
  | with_reducible refine R.is_ ?_ | with_reducible refine R.isnot ?_ | with_reducible refine R.andV ?_ | with_reducible refine R.orV ?_ | with_reducible refine R.notV ?_
  | ((with_reducible refine R.isi (s := ?s) (b := ?b) ?ty ?h ?q); (case ty => walk_at "ty"); (case h => walk_at "kit"))
  | ((with_reducible refine R.addS ?h ?q); (case h => walk_at "sz")) | with_reducible refine R.max2 ?_ | with_reducible refine R.min2 ?_
  | ((with_reducible refine R.lenStr ?h ?q); (case h => walk_at "szl")) | ((with_reducible refine R.ixS (n := ?n) ?h ?e ?q); (case h => walk_at "szl"); (case e => walk_at "ix"))
  | ((with_reducible refine R.tyl (xs := ?xs) ?h ?q); (case h => walk_at "at")) | with_reducible refine R.itlist ?_ | with_reducible refine R.ittup ?_ | with_reducible refine R.m1 ?_ | with_reducible refine R.m1s ?_ | with_reducible refine R.leS ?_ | with_reducible refine R.itstr ?_ | with_reducible refine R.itstrE ?_ | with_reducible refine R.lc ?_ | with_reducible refine R.lc2 ?_ | with_reducible refine R.ckw ?_ | with_reducible refine R.par ?_ | with_reducible refine R.parE ?_ | with_reducible refine R.itrev ?_ | with_reducible refine R.dsetd ?_ | with_reducible refine R.dnotin_ ?_ | with_reducible refine R.for_ ?_ | ((with_reducible refine R.all_ (bs := ?bs) ?h ?q); (case h => walk_at "at"))
  | with_reducible refine R.rng1 ?_ | ((with_reducible refine R.rngE ?h ?q); (case h => (constructor <;> omega)))
  | ((with_reducible refine R.lenT (xs := ?xs) ?h ?q); (case h => walk_at "sqt")) | ((with_reducible refine R.ixT (xs := ?xs) (v := ?v) ?h ?e ?q); (case h => walk_at "sqt"); (case e => walk_at "ix"))
  | ((refine R.itlE (xs := ?xs) ?h ?q); (case h => walk_at "at")) | ((refine R.ittE (xs := ?xs) ?h ?q); (case h => walk_at "at"))
  | ((refine R.gseq (xs := ?xs) ?h ?e ?q); (case h => walk_at "sqa"); (case e => rfl)) | ((refine R.ixA (xs := ?xs) (v := ?v) ?h ?e ?q); (case h => walk_at "sqa"); (case e => walk_at "ix")) | ((refine R.lenA (xs := ?xs) ?h ?q); (case h => walk_at "sqa"))
  | ((with_reducible refine R.gtup (xs := ?xs) ?h ?e ?q); (case h => walk_at "sqt"); (case e => rfl))
  | with_reducible refine R.din_ ?_ | with_reducible refine R.dput_ ?_
  | with_reducible refine R.dget2_ ?_ | ((with_reducible refine R.aug_ (x := ?x) ?h ?q); case h => rfl) | with_reducible refine R.ipI_ ?_
  | with_reducible refine R.rng2 ?_ | ((with_reducible refine R.rngE2 ?h ?q); (case h => (refine ⟨?_, ?_, ?_, ?_⟩ <;> omega)))
  | with_reducible refine R.brk ?_ | with_reducible refine R.intB ?_ | with_reducible refine R.meth_ ?_ | ((refine KN.methS (rs := ?rs) (ms := ?ms) ?h (fun _ _ _ _ => rfl) ?q); case h => walk_at "sys")
  | with_reducible refine R.sl_ ?_ | with_reducible refine R.np_ ?_ | with_reducible refine R.pt_ ?_ | with_reducible refine R.ptE ?_ | with_reducible refine R.dget_ ?_ | with_reducible refine R.revL_ ?_
  | ((refine R.dgetS (kvs := ?kvs) (v := ?v) ?h ?e ?q); (case h => walk_at "at"); (case e => walk_at "dk"))
  | with_reducible refine R.sfld ?_ | with_reducible refine R.fld_ ?_ | with_reducible refine R.dc ?_
  | with_reducible refine R.dget1_ ?_
  | with_reducible refine R.itseq ?_ | with_reducible refine R.itenum ?_
  | with_reducible refine R.itT ?_ | with_reducible refine R.itF ?_ | with_reducible refine R.itNT ?_ | with_reducible refine R.itNF ?_
  | (with_reducible refine R.tup ?_) | (with_reducible refine R.lst ?_))
local macro_rules | `(tactic| walk_at "rd") => `(tactic| (repeat (first | walk_at "r1" | (dsimp only [Int.reduceToNat, List.set_cons_succ, List.set_cons_zero, List.length_cons, List.length_nil, List.nil_append, List.cons_append, List.append_nil]))))
local macro_rules | `(tactic| walk_at "go") => `(tactic| (rw [R.start_eq]; dsimp only [R.startE, List.map_nil]; walk_at "rd"))
namespace KN
open PySem L2 SX R
open C8 (Cal Def cal0 pe_c pe_gc fnScope fnBody)
section
variable {P : Program} {w : World} {K : PySem.W.Frag} {mg : Str → Option Value} {base : Heap}
abbrev sBad : Stmt := inClass (top 14) 0
theorem scBad : FnScope ["self", "part", "number", "reason"] ["self", "part", "number", "reason"] (defScope sBad) := ⟨rfl, rfl, rfl, by decide +kernel, rfl, by decide +kernel, by decide +kernel⟩
/-- what stands of BadSystem, at C -/
structure BadK (K : PySem.W.Frag) (mg : Str → Option Value) (C fI : Addr) : Prop where
  oex : OexC K C
  iC : PySem.W.findIn K (.ref C) "__init__" = some (some (.ref fI))
  tI : PySem.W.typeIn K (.ref fI) = some (.type "function")
  gC : mg "BadSystem" = some (.ref C)
  nP : PySem.W.findIn K (.ref C) "part" = some none
  nN : PySem.W.findIn K (.ref C) "number" = some none
  nR : PySem.W.findIn K (.ref C) "reason" = some none
def badFs (p n r : V) : List (Str × V) := [("reason", r), ("number", n), ("part", p)]
def spBadI (C : Addr) : Sp := fun vs H Q _ => ∃ (a : Addr) (p n r : V), vs = [.ref a, p, n, r] ∧ H a = some (exo a C none) ∧
  ∀ dx H', H dx = none → dx ≠ a → (∀ b o, b ≠ a → H b = some o → H' b = some o) → H' a = some (exo a C (some dx)) → H' dx = some (exd dx (badFs p n r)) → Q .non H'
theorem ok_bad {C fI : Addr} {fd : FuncData} (T : BadK K mg C fI) (F : Fun K "__init__" "BadSystem.__init__" sBad fI fd) : FnOk P w K mg base CX0 1 fI fd ["self", "part", "number", "reason"] (spBadI C) := by
  refine F.ok scBad (fun vs H Q E h => ?_) (fun cdv A outer s H vs Q E hr h => ?_)
  · obtain ⟨a, p, n, r, rfl, _⟩ := h
    rfl
  · obtain ⟨a, p, n, r, rfl, ha, k⟩ := h
    refine ⟨_, pss_cons (ps_ost (pv 0) (pv 1)) (pss_cons (ps_ost (pv 0) (pv 2)) (pss_one (ps_ost (pv 0) (pv 3)))), ?_⟩
    refine ⟨_, rfl, _, rfl, a, C, rfl, T.oex, T.nP, .inl ⟨ha, fun dx hdx nda => ?_⟩⟩
    have ad : a ≠ dx := nda.symm
    refine ⟨_, rfl, _, rfl, a, C, rfl, T.oex, T.nN, .inr ⟨dx, _, upd_same, by rw [upd_ne nda]; exact upd_same, by show 1 ≤ 900; decide, ?_⟩⟩
    refine ⟨_, rfl, _, rfl, a, C, rfl, T.oex, T.nR, .inr ⟨dx, _, by rw [upd_ne ad]; exact upd_same, upd_same, by show 2 ≤ 900; decide, ?_⟩⟩
    refine k dx _ hdx nda (fun b o hb e => ?_) (by rw [upd_ne ad, upd_ne ad]; exact upd_same) upd_same
    have bd : b ≠ dx := ne_of_none e hdx
    rw [upd_ne bd, upd_ne bd, upd_ne hb, upd_ne bd]
    exact e
end
/-- the making of a BadSystem, read -/
theorem r_bad {C : Addr} {H1 : Hp} {p n r : V} {QX : XK} (k : ∀ d H', Same H1 H' → H1 d = none → H' d = some (.xd (badFs p n r)) → QX (.ref C) (some d) H') :
    [p, n, r].length ≤ 1000 ∧ ∀ a, H1 a = none → spBadI C (.ref a :: ([p, n, r] ++ [])) (upd H1 a (exo a C none))
      (fun v H2 => v = .non ∧ ∃ (d : Addr) (fs : List (Str × V)), H2 a = some (exo a C (some d)) ∧ H2 d = some (exd d fs) ∧ H1 d = none ∧ QX (.ref C) (some d) (upd (del H2 a) d (.xd fs))) (fun _ _ _ => False) := by
  refine ⟨by show 3 ≤ 1000; decide, fun a ha => ⟨a, p, n, r, rfl, upd_same, fun dx H' hdx nda hk h1 h2 => ⟨rfl, dx, badFs p n r, h1, h2, ?_, ?_⟩⟩⟩
  · rw [upd_ne nda] at hdx; exact hdx
  · have hdx1 : H1 dx = none := by rw [upd_ne nda] at hdx; exact hdx
    refine k dx _ (fun b o e => ?_) hdx1 upd_same
    have bd : b ≠ dx := ne_of_none e hdx1
    have ba : b ≠ a := ne_of_none e ha
    rw [upd_ne bd, del_ne ba]
    exact hk b o ba (by rw [upd_ne ba]; exact e)
/-! ### defs that may raise -/
structure CalX (P : Program) (w : World) (K : PySem.W.Frag) (mg : Str → Option Value) (base : Heap) (k : Nat) (x : Str) (sp : Sp) : Prop where
  ex : ∃ (f : Addr) (fd : FuncData) (ps : List Str), FnOk P w K mg base (L2.CX P w) k f fd ps sp ∧ mg x = some (.ref f) ∧ PySem.W.keepIn K (.ref f) = true ∧ Binds K fd ps []
section
variable {P : Program} {w : World} {K : PySem.W.Frag} {mg : Str → Option Value} {base : Heap}
theorem calX0 {x : Str} {st : Stmt} {f : Addr} {fd : FuncData} {N ps : List Str} {k : Nat} {sp : Sp} (F : Def K mg x st f fd) (b : Binds K fd ps []) (S : FnScope N ps (fnScope st)) (len : ∀ vs H Q E, sp vs H Q E → vs.length = ps.length)
    (hbody : ∀ (cdv : Value) (A : Around) (outer : List Env) (s : Shared) (H : Hp) (vs : List V) (Q : VK) (E : XK), Room k (A.deeper (PyProof.Rows.envOfC x (fnScope st) s.heap.objs.size f cdv)) → sp vs H Q E →
      ∃ t, PSs (cxOf (L2.CX P w) P w K mg base N x (fnScope st) f cdv A outer s H E) (fnBody st) t ∧ t { nx := fun _ H' => Q .non H', rt := Q } (start N vs) H) : CalX P w K mg base (k + 1) x sp := by
  obtain ⟨oc, od, dV, kV, doc, pm, an, cdv, ct, osl, rfl, lk, hcd⟩ := F.fn.ex
  refine ⟨f, _, ps, fn_of lk hcd S len fun A outer s H vs Q E hr hsp => ?_, F.mgf, F.kp, b⟩
  exact hbody cdv A outer s H vs Q E hr hsp
end
section
variable {X : Cx} {k j : Nat} {x : Str} {sp : Sp} {E : XK} {p pos : Pos} {e : Expr} {es : List Expr} {t : TA}
/-- a call of one, what it raises goes on -/
theorem pe_cx (c : CalX X.prog X.w X.K X.mg X.base k x sp) (hr : Room j X.A) (hk : k ≤ j) (tk : Takes X fun cls d _ H => E cls d H) (hg : Gl X x) (ha : PA X (e :: es) t)
    (hdb : (x == ("__debug__" : Str)) = false := by decide) (he : starEach (e :: es) X.env = (false, eval e X.env) :: starEach es X.env := by rfl) (hpl : (backTo pos (starEach es X.env)).any (·.1) = false := by rfl) :
    PE X (.Call (.Name x p) (e :: es) [] pos) (tCall sp [] E t) := by
  obtain ⟨f, fd, ps, F, hm, kp, b⟩ := c.ex
  exact pe_call F (hr.mono hk) hg hm kp b .nil (passes_call tk fun _ _ _ _ h => h) ha hdb he hpl
end
section
variable {P : Program} {w : World} {K : PySem.W.Frag} {mg : Str → Option Value} {base : Heap}
abbrev sCkrows : Stmt := top 18
theorem scCkrows : FnScope ["part", "rows", "most", "fault", "number", "row", "reason"] ["part", "rows", "most", "fault"] (fnScope sCkrows) := ⟨rfl, rfl, rfl, by decide +kernel, rfl, by decide +kernel, by decide +kernel⟩
/-- the rows of these, lists or tuples of lists or tuples -/
def RowsIn (H : Hp) (a : Addr) (ds : List (List V)) : Prop := ∃ xs : List V, SeqA H a xs ∧ xs.length = ds.length ∧ ∀ (i : Nat) (d : List V), ds[i]? = some d → ∃ b, xs[i]? = some (.ref b) ∧ SeqA H b d
theorem RowsIn.same {H H' : Hp} {a : Addr} {ds : List (List V)} (s : Same H H') (h : RowsIn H a ds) : RowsIn H' a ds := by
  obtain ⟨xs, h1, h2, h3⟩ := h
  exact ⟨xs, h1.same s, h2, fun i d e => let ⟨b, hb, hd⟩ := h3 i d e; ⟨b, hb, hd.same s⟩⟩
/-- which fault is asked, and what it tells of a row -/
def Flt (fS fM f : Addr) (d : List V) (o : Option Str) : Prop := (f = fS ∧ SShape d ∧ o = sF d) ∨ (f = fM ∧ MShape d o)
def spCheck (C fS fM : Addr) : Sp := fun vs H Q E => ∃ (part : Str) (a f : Addr) (most : Int) (ds : List (List V)) (os : List (Option Str)), vs = [.str part, .ref a, .int most, .ref f] ∧ RowsIn H a ds ∧ (f = fS ∨ f = fM) ∧ os.length = ds.length ∧ ds.length ≤ 1000 ∧
  (∀ (i : Nat) (d : List V) (o : Option Str), ds[i]? = some d → os[i]? = some o → Flt fS fM f d o) ∧
  (most < ds.length → ∀ (d : Addr) (H' : Hp), Same H H' → H' d = some (.xd (badFs (.str part) .non (.str "many"))) → E (.ref C) (some d) H') ∧
  ((ds.length : Int) ≤ most → ∀ (j : Nat) (r : Str), os[j]? = some (some r) → (∀ i, i < j → os[i]? = some none) → ∀ (d : Addr) (H' : Hp), Same H H' → H' d = some (.xd (badFs (.str part) (.int j) (.str r))) → E (.ref C) (some d) H') ∧
  ((ds.length : Int) ≤ most → (∀ i, i < ds.length → os[i]? = some none) → ∀ H', Same H H' → Q .non H')
theorem c_check_rows (Z : Zs mg) {C fI fS fM : Addr} {fdI : FuncData} (TB : BadK K mg C fI) (GB : FnOk P w K mg base CX0 1 fI fdI ["self", "part", "number", "reason"] (spBadI C)) (bB : Binds K fdI ["self", "part", "number", "reason"] [])
    (cS : C8.CalAt P w K mg base 2 fS spSf) (cM : C8.CalAt P w K mg base 2 fM spMf) {f : Addr} {fd : FuncData} (F : Def K mg "check_rows" sCkrows f fd) (b : Binds K fd ["part", "rows", "most", "fault"] []) : CalX P w K mg base 3 "check_rows" (spCheck C fS fM) := by
  refine calX0 F b scCkrows (fun vs H Q E h => ?_) (fun cdv A outer s H vs Q E hr h => ?_)
  · obtain ⟨part, a, f, most, ds, os, rfl, _⟩ := h
    rfl
  · obtain ⟨part, a, f, most, ds, os, rfl, hR, hf, hol, hds, hflt, kE1, kE2, kQ⟩ := h
    refine ⟨_, pss_cons (ps_if (pt_cmpR op_gt (pe_callB (kLen K) (by rfl) Z.len PySem.boot_len (pa_cons (pv 1) pa_nil)) (pv 2) (nomark _))
        (pss_one (ps_raise rfl (takes_of rfl rfl rfl rfl) (pmk_oex TB.oex TB.iC TB.tI GB (hr.mono (by omega)) bB .nil pass0 rfl TB.gC (pa_cons (pv 0) (pa_cons pe_non (pa_cons pe_str pa_nil))))))
        (pss_nil))
      (pss_one (ps_for (passes_of rfl) rfl (kiEnum K (by rfl) Z.enumerate (pa_cons (pv 1) pa_nil)) (kgTup K (n := 2) rfl (pgs_cons (pg_name (i := 4) scCkrows.nd rfl (Or.inl rfl)) (pgs_cons (pg_name (i := 5) scCkrows.nd rfl (Or.inl rfl)) pgs_nil)))
        (pss_cons (ps_set (i := 6) scCkrows.nd rfl (Or.inl rfl) (C8.pe_cv cS cM hr (by omega) (by omega) (i := 3) rfl (Or.inl rfl) (pa_cons (pv 5) pa_nil)))
      (pss_one (ps_if (pt_cmpR oIsNot (pv 6) pe_non (nomark _))
        (pss_one (ps_raise rfl (takes_of rfl rfl rfl rfl) (pmk_oex TB.oex TB.iC TB.tI GB (hr.mono (by omega)) bB .nil pass0 rfl TB.gC (pa_cons (pv 0) (pa_cons (pv 4) (pa_cons (pv 6) pa_nil))))))
        (pss_nil)))))), ?_⟩
    obtain ⟨xs, hxs, hxl, hrow⟩ := id hR
    walk_at "go"
    refine it (fun h1 => ?_) (fun h1 => ?_)
    · walk_at "rd"
      unfold tMkO
      walk_at "rd"
      exact r_bad fun d H' s1 _ h => kE1 (by omega) d H' s1 h
    · walk_at "rd"
      have hm : (ds.length : Int) ≤ most := by omega
      refine for_enum hxs (fun i σ' H' => ∃ n r v, σ' = [some (V.str part), some (.ref a), some (.int most), some (.ref f), n, r, v] ∧ Same H H' ∧ ∀ j, j < i → os[j]? = some none) ⟨none, none, none, rfl, Same.refl H, fun j h => absurd h (Nat.not_lt_zero _)⟩
        (fun i σ' H' _ hp => by obtain ⟨_, _, _, _, s1, _⟩ := hp; exact fun o h => s1 _ _ h) ?_ ?_
      · rintro i x σ' H1 T hi ⟨n0, r0, v0, rfl, s1, hall⟩ hT
        have hid : i < ds.length := by have := (List.getElem?_eq_some_iff.mp hi).1; omega
        have hdi : ds[i]? = some ds[i] := List.getElem?_eq_getElem hid
        have hoi : os[i]? = some os[i] := List.getElem?_eq_getElem (by omega)
        obtain ⟨b, hb, hbd⟩ := hrow i _ hdi
        rw [hb] at hi
        cases hi
        have hfl := hflt i _ _ hdi hoi
        have s2 : Same H (upd H1 T (.tup [.int (i : Nat), .ref b])) := same_new s1 hT
        have hTt : upd H1 T (.tup [V.int (i : Nat), .ref b]) T = some (.tup [.int (i : Nat), .ref b]) := upd_same
        have hb2 := hbd.same s2
        generalize upd H1 T (.tup [V.int (i : Nat), .ref b]) = H2 at s2 hTt hb2 ⊢
        have rest : ∀ H3, Same H2 H3 → ∀ D : Ends, D.nx = (fun σ' H' => ∃ n r v, σ' = [some (V.str part), some (.ref a), some (.int most), some (.ref f), n, r, v] ∧ Same H H' ∧ ∀ j, j < i + 1 → os[j]? = some none) →
            (if (!decide (oS os[i] = V.non)) = true then tMkO C (spBadI C) [] (tCons (tVar 0) (tCons (tVar 4) (tCons (tVar 6) tNil))) [some (V.str part), some (.ref a), some (.int most), some (.ref f), some (.int (i : Nat)), some (.ref b), some (oS os[i])] H3 (fun cls d H' => E cls d H')
              else D.nx [some (V.str part), some (.ref a), some (.int most), some (.ref f), some (.int (i : Nat)), some (.ref b), some (oS os[i])] H3) := by
          intro H3 s3 D eD
          rw [eD]
          cases ho : os[i] with
          | none =>
            refine itn (fun q => absurd rfl q) (fun _ => ?_)
            refine ⟨_, _, _, rfl, s2.trans s3, fun j hj => ?_⟩
            by_cases hji : j = i
            · rw [hji, hoi, ho]
            · exact hall j (by omega)
          | some r =>
            refine itn (fun _ => ?_) (fun q => nomatch (show V.str r = V.non from q))
            unfold tMkO
            walk_at "rd"
            exact r_bad fun d H' s4 _ h => kE2 hm i r (by rw [hoi, ho]) hall d H' ((s2.trans s3).trans s4) h
        walk_at "rd"
        rcases hfl with ⟨ef, hsh, eo⟩ | ⟨ef, hsh⟩
        · subst ef
          refine .inl ⟨rfl, ?_⟩
          walk_at "rd"
          refine ⟨b, _, rfl, hb2, hsh, fun H3 s3 => ?_⟩
          rw [← eo]
          walk_at "rd"
          exact rest H3 s3 _ rfl
        · subst ef
          refine .inr ⟨rfl, ?_⟩
          walk_at "rd"
          refine ⟨b, _, _, rfl, hb2, hsh, fun H3 s3 => ?_⟩
          walk_at "rd"
          exact rest H3 s3 _ rfl
      · rintro σ' H1 ⟨n0, r0, v0, rfl, s1, hall⟩
        exact kQ hm (fun i hi => hall i (by omega)) H1 s1
end
end KN
end
section
set_option Elab.async false
set_option linter.all false
set_option maxRecDepth 100000
set_option maxHeartbeats 4000000
set_option pp.maxSteps 1500
set_option pp.deepTerms false
local macro_rules | `(tactic| walk_at "ne") => `(tactic| first
  | assumption | (apply Ne.symm; assumption)
  | exact R.ne_new (by assumption) | exact (R.ne_new (by assumption)).symm
  | exact L2.ne_of_none (by assumption) (by assumption) | exact (L2.ne_of_none (by assumption) (by assumption)).symm
  | exact L2.ne_of_none (by assumption) (R.free_new (by assumption)) | exact (L2.ne_of_none (by assumption) (R.free_new (by assumption))).symm)
local macro_rules | `(tactic| walk_at "at") => `(tactic| first
  | assumption | exact L2.upd_same
  | (refine R.sb (H := ?H) (p := ?p) ?e ?n ?h; (case e => assumption); (case n => walk_at "ne"); (case h => walk_at "at"))
  | (refine R.sm (H := ?H) ?e ?h; (case e => assumption); (case h => walk_at "at"))
  | (refine Eq.trans (L2.upd_ne ?_) ?_ <;> first | walk_at "ne" | walk_at "at"))
local macro_rules | `(tactic| walk_at "sqt") => `(tactic| first | assumption | (refine L2.SqT.of ?_; walk_at "at"))
local macro_rules | `(tactic| walk_at "ty") => `(tactic| first | exact R.tyN | exact R.tyB | exact R.tyI | exact R.tyS | (refine R.tyT (xs := ?xs) ?h; case h => walk_at "at") | (refine R.tyL (xs := ?xs) ?h; case h => walk_at "at"))
local macro_rules | `(tactic| walk_at "kit") => `(tactic| first | exact R.kit_NoneType_tuple | exact R.kit_NoneType_list | exact R.kit_NoneType_bool | exact R.kit_NoneType_str | exact R.kit_NoneType_int | exact R.kit_bool_tuple | exact R.kit_bool_list | exact R.kit_bool_bool | exact R.kit_bool_str | exact R.kit_bool_int | exact R.kit_int_tuple | exact R.kit_int_list | exact R.kit_int_bool | exact R.kit_int_str | exact R.kit_int_int | exact R.kit_str_tuple | exact R.kit_str_list | exact R.kit_str_bool | exact R.kit_str_str | exact R.kit_str_int | exact R.kit_tuple_tuple | exact R.kit_tuple_list | exact R.kit_tuple_bool | exact R.kit_tuple_str | exact R.kit_tuple_int | exact R.kit_list_tuple | exact R.kit_list_list | exact R.kit_list_bool | exact R.kit_list_str | exact R.kit_list_int)
local macro_rules | `(tactic| walk_at "sz") => `(tactic| first | assumption | (refine Nat.le_trans ?_ (show 1000 ≤ PySem.sizeLine by decide); omega) | decide)
local macro_rules | `(tactic| walk_at "szl") => `(tactic| first | assumption | exact Nat.le_of_lt (L2.small1000 (by omega)) | decide | decide +kernel)
local macro_rules | `(tactic| walk_at "sys") => `(tactic| first | assumption | exact KN.SysAt.same (by assumption) (by assumption))
local macro_rules | `(tactic| walk_at "dk") => `(tactic| first | exact R.rowsS _ _ | exact R.rowsM _ _)
local macro_rules | `(tactic| walk_at "sqa") => `(tactic| first | assumption | exact R.SeqA.same (by assumption) (by assumption) | exact R.SeqA.new (by assumption) (by assumption) | (exact Or.inl (by walk_at "at")) | (exact Or.inr (by walk_at "at")))
local macro_rules | `(tactic| walk_at "ix") => `(tactic| first | rfl | (exact L2.atI_nat (by assumption)) | assumption)
local macro_rules | `(tactic| walk_at "cond") => `(tactic| first
  | exact Or.inl (by decide) | exact Or.inr (by decide) | exact Or.inl ⟨by omega, by omega⟩ | exact Or.inr ⟨by omega, by omega⟩
  | (constructor <;> omega) | (show _ ≠ _; omega) | decide | omega)
local macro_rules | `(tactic| walk_at "r1") => `(tactic| first
  | with_reducible refine R.seq ?_ | with_reducible refine R.asg ?_ | with_reducible refine R.ifs ?_ | with_reducible refine R.ret ?_ | with_reducible refine R.retN ?_ | with_reducible refine R.drop ?_ | with_reducible refine R.next ?_
  | with_reducible refine R.op ?_ | ((with_reducible refine R.var (v := ?v) ?h ?q); case h => rfl) | with_reducible refine R.c ?_ | with_reducible refine R.tst ?_ | with_reducible refine R.tb_ ?_ | with_reducible refine R.ex ?_
  | with_reducible refine R.i0 ?_ | with_reducible refine R.eqI ?_ | with_reducible refine R.neI ?_ | ((with_reducible refine R.ic ?_ ?_); · walk_at "cond") | with_reducible refine R.u0 ?_ | with_reducible refine R.un ?_
  | ((with_reducible refine R.eq ?_ ?_); · rfl) | ((with_reducible refine R.ne ?_ ?_); · rfl)
  | with_reducible refine R.and_ ?_ | with_reducible refine R.or_ ?_ | with_reducible refine R.not_ ?_ | with_reducible refine R.ife ?_ | with_reducible refine R.chain ?_
  | with_reducible refine R.cons ?_ | with_reducible refine R.nil ?_ | with_reducible refine R.call ?_ | with_reducible refine R.cb ?_ | with_reducible refine R.bm ?_
  | with_reducible refine R.gname ?_ | with_reducible refine R.gsub ?_ | with_reducible refine R.gnil ?_ | with_reducible refine R.gcons ?_ | with_reducible refine R.yes ?_
  | with_reducible refine R.int1 ?_ | ((with_reducible refine R.lenL (xs := ?xs) ?h ?q); case h => walk_at "at")
  | ((with_reducible refine R.ixL (xs := ?xs) (v := ?v) ?h ?e ?q); (case h => walk_at "at"); (case e => walk_at "ix"))
  | ((with_reducible refine R.setL (xs := ?xs) (n := ?n) ?h ?e ?q); (case h => walk_at "at"); (case e => rfl))
  | ((with_reducible refine R.append (xs := ?xs) ?h ?e ?q); (case h => walk_at "at"); (case e => walk_at "cond"))
  | with_reducible refine R.is_ ?_ | with_reducible refine R.isnot ?_ | with_reducible refine R.andV ?_ | with_reducible refine R.orV ?_ | with_reducible refine R.notV ?_
  | ((with_reducible refine R.isi (s := ?s) (b := ?b) ?ty ?h ?q); (case ty => walk_at "ty"); (case h => walk_at "kit"))
  | ((with_reducible refine R.addS ?h ?q); (case h => walk_at "sz")) | with_reducible refine R.max2 ?_ | with_reducible refine R.min2 ?_
  | ((with_reducible refine R.lenStr ?h ?q); (case h => walk_at "szl")) | ((with_reducible refine R.ixS (n := ?n) ?h ?e ?q); (case h => walk_at "szl"); (case e => walk_at "ix"))
  | ((with_reducible refine R.tyl (xs := ?xs) ?h ?q); (case h => walk_at "at")) | with_reducible refine R.itlist ?_ | with_reducible refine R.ittup ?_ | with_reducible refine R.m1 ?_ | with_reducible refine R.m1s ?_ | with_reducible refine R.leS ?_ | with_reducible refine R.itstr ?_ | with_reducible refine R.itstrE ?_ | with_reducible refine R.lc ?_ | with_reducible refine R.lc2 ?_ | with_reducible refine R.ckw ?_ | with_reducible refine R.par ?_ | with_reducible refine R.parE ?_ | with_reducible refine R.itrev ?_ | with_reducible refine R.dsetd ?_ | with_reducible refine R.dnotin_ ?_ | with_reducible refine R.for_ ?_ | ((with_reducible refine R.all_ (bs := ?bs) ?h ?q); (case h => walk_at "at"))
  | with_reducible refine R.rng1 ?_ | ((with_reducible refine R.rngE ?h ?q); (case h => (constructor <;> omega)))
  | ((with_reducible refine R.lenT (xs := ?xs) ?h ?q); (case h => walk_at "sqt")) | ((with_reducible refine R.ixT (xs := ?xs) (v := ?v) ?h ?e ?q); (case h => walk_at "sqt"); (case e => walk_at "ix"))
  | ((refine R.itlE (xs := ?xs) ?h ?q); (case h => walk_at "at")) | ((refine R.ittE (xs := ?xs) ?h ?q); (case h => walk_at "at"))
  | ((refine R.gseq (xs := ?xs) ?h ?e ?q); (case h => walk_at "sqa"); (case e => rfl)) | ((refine R.ixA (xs := ?xs) (v := ?v) ?h ?e ?q); (case h => walk_at "sqa"); (case e => walk_at "ix")) | ((refine R.lenA (xs := ?xs) ?h ?q); (case h => walk_at "sqa"))
  | ((with_reducible refine R.gtup (xs := ?xs) ?h ?e ?q); (case h => walk_at "sqt"); (case e => rfl))
  | with_reducible refine R.din_ ?_ | with_reducible refine R.dput_ ?_
  | with_reducible refine R.dget2_ ?_ | ((with_reducible refine R.aug_ (x := ?x) ?h ?q); case h => rfl) | with_reducible refine R.ipI_ ?_
  | with_reducible refine R.rng2 ?_ | ((with_reducible refine R.rngE2 ?h ?q); (case h => (refine ⟨?_, ?_, ?_, ?_⟩ <;> omega)))
  | with_reducible refine R.brk ?_ | with_reducible refine R.intB ?_ | with_reducible refine R.meth_ ?_ | ((refine KN.methS (rs := ?rs) (ms := ?ms) ?h (fun _ _ _ _ => rfl) ?q); case h => walk_at "sys")
  | with_reducible refine R.sl_ ?_ | with_reducible refine R.np_ ?_ | with_reducible refine R.pt_ ?_ | with_reducible refine R.ptE ?_ | with_reducible refine R.dget_ ?_ | with_reducible refine R.revL_ ?_
  | ((refine R.dgetS (kvs := ?kvs) (v := ?v) ?h ?e ?q); (case h => walk_at "at"); (case e => walk_at "dk"))
  | with_reducible refine R.sfld ?_ | with_reducible refine R.fld_ ?_ | with_reducible refine R.dc ?_
  | with_reducible refine R.dget1_ ?_
  | with_reducible refine R.itseq ?_ | with_reducible refine R.itenum ?_
  | with_reducible refine R.itT ?_ | with_reducible refine R.itF ?_ | with_reducible refine R.itNT ?_ | with_reducible refine R.itNF ?_
  | (with_reducible refine R.tup ?_) | (with_reducible refine R.lst ?_))
local macro_rules | `(tactic| walk_at "rd") => `(tactic| (repeat (first | walk_at "r1" | (dsimp only [Int.reduceToNat, List.set_cons_succ, List.set_cons_zero, List.length_cons, List.length_nil, List.nil_append, List.cons_append, List.append_nil]))))
local macro_rules | `(tactic| walk_at "go") => `(tactic| (rw [R.start_eq]; dsimp only [R.startE, List.map_nil]; walk_at "rd"))
namespace KN
open PySem L2 SX R
open C8 (Cal Def cal0 pe_c pe_gc fnScope fnBody)
section
variable {P : Program} {w : World} {K : PySem.W.Frag} {mg : Str → Option Value} {base : Heap}
abbrev sCktwice : Stmt := top 19
theorem scCktwice : FnScope ["simple", "multipliers", "seen", "part", "rows", "number", "row"] ["simple", "multipliers"] (fnScope sCktwice) := ⟨rfl, rfl, rfl, by decide +kernel, rfl, by decide +kernel, by decide +kernel⟩
abbrev sCkendl : Stmt := top 20
theorem scCkendl : FnScope ["multipliers", "found", "number", "row"] ["multipliers"] (fnScope sCkendl) := ⟨rfl, rfl, rfl, by decide +kernel, rfl, by decide +kernel, by decide +kernel⟩
/-- rows whose first items are these words -/
def WordsIn (H : Hp) (a : Addr) (ws : List Str) : Prop := ∃ ds : List (List V), RowsIn H a ds ∧ ds.length = ws.length ∧ ∀ (i : Nat) (z : Str), ws[i]? = some z → ∃ r, ds[i]? = some (.str z :: r)
def partV (n i : Nat) : V := if i < n then .str "simple" else .str "multipliers"
def ixV (n i : Nat) : V := if i < n then .int (i : Nat) else .int ((i - n : Nat) : Nat)
def spTwice (C : Addr) : Sp := fun vs H Q E => ∃ (a c : Addr) (ws us : List Str), vs = [.ref a, .ref c] ∧ WordsIn H a ws ∧ WordsIn H c us ∧ ws.length + us.length ≤ 1000 ∧
  (∀ (i : Nat) (z : Str), (ws ++ us)[i]? = some z → ((ws ++ us).take i).Nodup → z ∈ (ws ++ us).take i → ∀ (d : Addr) (H' : Hp), Same H H' → H' d = some (.xd (badFs (partV ws.length i) (ixV ws.length i) (.str "twice"))) → E (.ref C) (some d) H') ∧
  ((ws ++ us).Nodup → ∀ H', Same H H' → Q .non H')
theorem c_check_twice (Z : Zs mg) {C fI : Addr} {fdI : FuncData} (TB : BadK K mg C fI) (GB : FnOk P w K mg base CX0 1 fI fdI ["self", "part", "number", "reason"] (spBadI C)) (bB : Binds K fdI ["self", "part", "number", "reason"] [])
    {f : Addr} {fd : FuncData} (F : Def K mg "check_twice" sCktwice f fd) (b : Binds K fd ["simple", "multipliers"] []) : CalX P w K mg base 3 "check_twice" (spTwice C) := by
  refine calX0 F b scCktwice (fun vs H Q E h => ?_) (fun cdv A outer s H vs Q E hr h => ?_)
  · obtain ⟨a, c, ws, us, rfl, _⟩ := h
    rfl
  · obtain ⟨a, c, ws, us, rfl, hw, hu, hlen, kE, kQ⟩ := h
    refine ⟨_, pss_cons (ps_set (i := 2) scCktwice.nd rfl (Or.inl rfl) pe_dnewK)
      (pss_one (ps_for (passes_of rfl) rfl (kiT K (pe_tup (pa_cons (pe_tup (pa_cons pe_str (pa_cons (pv 0) pa_nil))) (pa_cons (pe_tup (pa_cons pe_str (pa_cons (pv 1) pa_nil))) pa_nil)))) (kgTup K (n := 2) rfl (pgs_cons (pg_name (i := 3) scCktwice.nd rfl (Or.inl rfl)) (pgs_cons (pg_name (i := 4) scCktwice.nd rfl (Or.inl rfl)) pgs_nil)))
        (pss_one (ps_for (passes_of rfl) rfl (kiEnum K (by rfl) Z.enumerate (pa_cons (pv 4) pa_nil)) (kgTup K (n := 2) rfl (pgs_cons (pg_name (i := 5) scCktwice.nd rfl (Or.inl rfl)) (pgs_cons (pg_name (i := 6) scCktwice.nd rfl (Or.inl rfl)) pgs_nil)))
        (pss_cons (ps_if (pt_cmp (pc_din (hu_of hr) (pe_ix (kIxA K) (pv 6) pe_int (fun _ _ => rfl)) (pv 2)))
        (pss_one (ps_raise rfl (takes_of rfl rfl rfl rfl) (pmk_oex TB.oex TB.iC TB.tI GB (hr.mono (by omega)) bB .nil pass0 rfl TB.gC (pa_cons (pv 3) (pa_cons (pv 5) (pa_cons pe_str pa_nil))))))
        (pss_nil))
      (pss_one (ps_dput (hu_of hr) (pv 2) (pe_ix (kIxA K) (pv 6) pe_int (fun _ _ => rfl)) pe_bl rfl))))))), ?_⟩
    walk_at "go"
    refine R.dnew fun d hd => ?_
    walk_at "rd"
    have inner : ∀ (pre cur : List Str) (pv : V) (x : Addr) (n5 n6 : Option V) (D : Ends) (H1 : Hp), pre.Nodup → pre.length + cur.length ≤ 1000 → WordsIn H x cur →
        (∀ (j : Nat) (z : Str), cur[j]? = some z → (pre ++ cur.take j).Nodup → z ∈ pre ++ cur.take j → ∀ (d' : Addr) (H' : Hp), Same H H' → H' d' = some (.xd (badFs pv (.int j) (.str "twice"))) → E (.ref C) (some d') H') →
        (∀ (q5 q6 : Option V) (H2 : Hp), Same H H2 → (∀ b o, b ≠ d → H1 b = some o → H2 b = some o) → H2 d = some (.dK (wordKs (pre ++ cur))) → (pre ++ cur).Nodup → D.nx [some (.ref a), some (.ref c), some (.ref d), some pv, some (.ref x), q5, q6] H2) →
        Same H H1 → H1 d = some (.dK (wordKs pre)) →
        tFor (iEnumA K (tCons (tVar 4) tNil)) (gTup K 2 (gCons (gName 5) (gCons (gName 6) gNil)))
          (tSeq
            (tIfS (tB (tDIn (tOp (rIxA K) (tVar 6) (tC (V.int 0))) (tVar 2)))
              (fun x σ H =>
                tMkO C (spBadI C) [] (tCons (tVar 3) (tCons (tVar 5) (tCons (tC (V.str (Str.ofString "twice"))) tNil)))
                  σ H fun cls d H' => E cls d H')
              tNext)
            (sDPut (tVar 2) (tOp (rIxA K) (tVar 6) (tC (V.int 0))) (tC (V.bl true)))) D [some (.ref a), some (.ref c), some (.ref d), some pv, some (.ref x), n5, n6] H1 := by
      intro pre cur pv x n5 n6 D H1 hpn hpl hwx hE hN s1 hd1
      obtain ⟨ds, ⟨xs, hxs, hxl, hrow⟩, hdl, hword⟩ := hwx
      walk_at "rd"
      refine for_enum (hxs.same s1) (fun i σ' H' => ∃ q5 q6, σ' = [some (.ref a), some (.ref c), some (.ref d), some pv, some (.ref x), q5, q6] ∧ Same H H' ∧ (∀ b o, b ≠ d → H1 b = some o → H' b = some o) ∧ H' d = some (.dK (wordKs (pre ++ cur.take i))) ∧ (pre ++ cur.take i).Nodup)
        ⟨n5, n6, rfl, s1, fun b o _ h => h, by rw [List.take_zero, List.append_nil]; exact hd1, by rw [List.take_zero, List.append_nil]; exact hpn⟩ ?_ ?_ ?_
      · rintro i σ' H' _ ⟨_, _, _, _, s2, _⟩ o h
        have hxd : x ≠ d := by
          rcases hxs with q | q
          · exact ne_of_none q hd
          · exact ne_of_none q hd
        exact s2 x o hxd h
      · rintro i y σ' H2 T hi ⟨q5, q6, rfl, s2, o2, hd2, hnd⟩ hT
        have hic : i < cur.length := by have := (List.getElem?_eq_some_iff.mp hi).1; omega
        have hz : cur[i]? = some cur[i] := List.getElem?_eq_getElem hic
        obtain ⟨r, hdr⟩ := hword i _ hz
        obtain ⟨b, hb, hbd⟩ := hrow i _ hdr
        rw [hb] at hi
        cases hi
        have s3 : Same H (upd H2 T (.tup [.int (i : Nat), .ref b])) := same_new s2 hT
        have o3 : ∀ b' o, b' ≠ d → H1 b' = some o → upd H2 T (.tup [V.int (i : Nat), .ref b]) b' = some o := fun b' o n h => by
          have := o2 b' o n h
          rw [upd_ne (ne_of_none this hT)]
          exact this
        have hTt : upd H2 T (.tup [V.int (i : Nat), .ref b]) T = some (.tup [.int (i : Nat), .ref b]) := upd_same
        have hd3 : upd H2 T (.tup [V.int (i : Nat), .ref b]) d = some (.dK (wordKs (pre ++ cur.take i))) := by rw [upd_ne (ne_of_none hd2 hT)]; exact hd2
        have hb3 := hbd.same s3
        have hl3 : (wordKs (pre ++ cur.take i)).length < sizeLine := small1000 (by unfold wordKs; rw [List.length_map, List.length_append, List.length_take]; omega)
        generalize upd H2 T (.tup [V.int (i : Nat), .ref b]) = H3 at s3 o3 hTt hb3 hd3 ⊢
        walk_at "rd"
        refine R.ixA hb3 (atI_nat (j := 0) rfl) ?_
        walk_at "rd"
        refine R.din hd3 ?_
        rw [wordKs_in]
        walk_at "rd"
        refine it (fun h1 => ?_) (fun h1 => ?_)
        · unfold tMkO
          walk_at "rd"
          exact r_bad fun d' H' s4 _ h => hE i _ hz hnd h1 d' H' (s3.trans s4) h
        · walk_at "rd"
          refine R.ixA hb3 (atI_nat (j := 0) rfl) ?_
          refine R.dput hd3 hl3 ?_
          have et : cur.take (i + 1) = cur.take i ++ [cur[i]] := by rw [List.take_add_one, hz]; rfl
          refine ⟨_, _, rfl, same_put s3 hd, fun b' o n h => by rw [upd_ne n]; exact o3 b' o n h, ?_, ?_⟩
          · rw [upd_same, wordKs_put _ _ h1, et, List.append_assoc]
          · rw [et, ← List.append_assoc]
            exact nodup_snoc hnd h1
      · rintro σ' H2 ⟨q5, q6, rfl, s2, o2, hd2, hnd⟩
        have exl : xs.length = cur.length := by omega
        rw [exl, List.take_of_length_le (Nat.le_refl _)] at hd2 hnd
        exact hN q5 q6 H2 s2 o2 hd2 hnd
    refine ⟨by decide, fun t1 ht1 => ?_⟩
    walk_at "rd"
    refine ⟨by decide, fun t2 ht2 => ?_⟩
    walk_at "rd"
    refine ⟨by decide, fun t3 ht3 => ?_⟩
    have dt1 : d ≠ t1 := (ne_new ht1).symm
    have ht1' : H t1 = none := free_new ht1
    have dt2 : d ≠ t2 := (ne_new (free_new ht2)).symm
    have t12 : t1 ≠ t2 := (ne_new ht2).symm
    have ht2' : H t2 = none := free_new (free_new ht2)
    have dt3 : d ≠ t3 := (ne_new (free_new (free_new ht3))).symm
    have t13 : t1 ≠ t3 := (ne_new (free_new ht3)).symm
    have t23 : t2 ≠ t3 := (ne_new ht3).symm
    have ht3' : H t3 = none := free_new (free_new (free_new ht3))
    have s0 : Same H (upd (upd (upd (upd H d (.dK [])) t1 (.tup [.str "simple", .ref a])) t2 (.tup [.str "multipliers", .ref c])) t3 (.tup [.ref t1, .ref t2])) :=
      same_put (same_put (same_put (same_put (Same.refl H) hd) ht1') ht2') ht3'
    have f1 : upd (upd (upd (upd H d (.dK [])) t1 (.tup [V.str "simple", .ref a])) t2 (.tup [V.str "multipliers", .ref c])) t3 (.tup [V.ref t1, .ref t2]) t1 = some (.tup [.str "simple", .ref a]) := by
      rw [upd_ne t13, upd_ne t12]; exact upd_same
    have f2 : upd (upd (upd (upd H d (.dK [])) t1 (.tup [V.str "simple", .ref a])) t2 (.tup [V.str "multipliers", .ref c])) t3 (.tup [V.ref t1, .ref t2]) t2 = some (.tup [.str "multipliers", .ref c]) := by
      rw [upd_ne t23]; exact upd_same
    have f3 : upd (upd (upd (upd H d (.dK [])) t1 (.tup [V.str "simple", .ref a])) t2 (.tup [V.str "multipliers", .ref c])) t3 (.tup [V.ref t1, .ref t2]) t3 = some (.tup [.ref t1, .ref t2]) := upd_same
    have fd : upd (upd (upd (upd H d (.dK [])) t1 (.tup [V.str "simple", .ref a])) t2 (.tup [V.str "multipliers", .ref c])) t3 (.tup [V.ref t1, .ref t2]) d = some (.dK (wordKs [])) := by
      rw [upd_ne dt3, upd_ne dt2, upd_ne dt1]; exact upd_same
    generalize upd (upd (upd (upd H d (.dK [])) t1 (.tup [V.str "simple", .ref a])) t2 (.tup [V.str "multipliers", .ref c])) t3 (.tup [V.ref t1, .ref t2]) = H0 at s0 f1 f2 f3 fd
    walk_at "rd"
    refine for_it (walk_tup (K := K) (a := t3) (xs := [V.ref t1, .ref t2])) (fun i σ' H' => ∃ q3 q4 q5 q6, σ' = [some (.ref a), some (.ref c), some (.ref d), q3, q4, q5, q6] ∧ Same H H' ∧ (∀ b o, b ≠ d → H0 b = some o → H' b = some o) ∧
      H' d = some (.dK (wordKs (if i = 0 then [] else if i = 1 then ws else ws ++ us))) ∧ (if i = 0 then [] else if i = 1 then ws else ws ++ us).Nodup)
      ⟨none, none, none, none, rfl, s0, fun b o _ h => h, fd, List.nodup_nil⟩ (fun i σ' H' _ hp => by obtain ⟨_, _, _, _, _, _, o1, _⟩ := hp; exact SqT.of (o1 _ _ dt3.symm f3)) ?_ ?_
    · rintro i x σ' H1 H1' hi ⟨q3, q4, q5, q6, rfl, s1, o1, hd1, hnd⟩ ⟨rfl, hx⟩
      have g1 := o1 _ _ dt1.symm f1
      have g2 := o1 _ _ dt2.symm f2
      match i, hi with
      | 0, _ =>
        cases hx
        refine R.gtup (SqT.of g1) rfl ?_
        refine R.gcons ?_
        refine R.gname ?_
        refine R.gcons ?_
        refine R.gname ?_
        refine R.gnil ?_
        dsimp only [List.set_cons_succ, List.set_cons_zero]
        refine inner [] ws (.str "simple") a q5 q6 _ _ List.nodup_nil (by show 0 + ws.length ≤ 1000; omega) hw (fun j z hz hn hm d' H' s4 h => ?_) (fun p5 p6 H2 s2 o2 hd2 hn2 => ?_) s1 hd1
        · rw [List.nil_append] at hn hm
          have hj : j < ws.length := (List.getElem?_eq_some_iff.mp hz).1
          refine kE j z (by rw [List.getElem?_append_left hj]; exact hz) ?_ ?_ d' H' s4 ?_
          · rw [List.take_append_of_le_length (by omega)]; exact hn
          · rw [List.take_append_of_le_length (by omega)]; exact hm
          · rw [h]
            unfold partV ixV
            rw [if_pos hj, if_pos hj]
        · exact ⟨_, _, _, _, rfl, s2, fun b o n h => o2 b o n (o1 b o n h), hd2, hn2⟩
      | 1, _ =>
        cases hx
        refine R.gtup (SqT.of g2) rfl ?_
        refine R.gcons ?_
        refine R.gname ?_
        refine R.gcons ?_
        refine R.gname ?_
        refine R.gnil ?_
        dsimp only [List.set_cons_succ, List.set_cons_zero]
        refine inner ws us (.str "multipliers") c q5 q6 _ _ hnd hlen hu (fun j z hz hn hm d' H' s4 h => ?_) (fun p5 p6 H2 s2 o2 hd2 hn2 => ?_) s1 hd1
        · have et : (ws ++ us).take (ws.length + j) = ws ++ us.take j := by
            rw [List.take_append, List.take_of_length_le (by omega)]
            congr 2
            omega
          refine kE (ws.length + j) z (by rw [List.getElem?_append_right (by omega)]; rw [show ws.length + j - ws.length = j by omega]; exact hz) (by rw [et]; exact hn) (by rw [et]; exact hm) d' H' s4 ?_
          rw [h]
          unfold partV ixV
          rw [if_neg (by omega), if_neg (by omega), show ws.length + j - ws.length = j by omega]
        · exact ⟨_, _, _, _, rfl, s2, fun b o n h => o2 b o n (o1 b o n h), hd2, hn2⟩
    · rintro σ' H1 ⟨q3, q4, q5, q6, rfl, s1, o1, hd1, hnd⟩
      exact kQ hnd H1 s1
/-- rows whose third items are these counts -/
def CountsIn (H : Hp) (a : Addr) (cs : List (Option Int)) : Prop := ∃ ds : List (List V), RowsIn H a ds ∧ ds.length = cs.length ∧ ∀ (i : Nat) (o : Option Int), cs[i]? = some o → ∃ d, ds[i]? = some d ∧ atI d 2 = some (ocnt o)
def spEndl (C : Addr) : Sp := fun vs H Q E => ∃ (c : Addr) (cs : List (Option Int)), vs = [.ref c] ∧ CountsIn H c cs ∧
  (∀ (i : Nat), cs[i]? = some none → ((cs.take i).filter Option.isNone).length = 1 → ∀ (d : Addr) (H' : Hp), Same H H' → H' d = some (.xd (badFs (.str "multipliers") (.int i) (.str "endless"))) → E (.ref C) (some d) H') ∧
  ((cs.filter Option.isNone).length ≤ 1 → ∀ H', Same H H' → Q .non H')
theorem c_check_endless (Z : Zs mg) {C fI : Addr} {fdI : FuncData} (TB : BadK K mg C fI) (GB : FnOk P w K mg base CX0 1 fI fdI ["self", "part", "number", "reason"] (spBadI C)) (bB : Binds K fdI ["self", "part", "number", "reason"] [])
    {f : Addr} {fd : FuncData} (F : Def K mg "check_endless" sCkendl f fd) (b : Binds K fd ["multipliers"] []) : CalX P w K mg base 3 "check_endless" (spEndl C) := by
  refine calX0 F b scCkendl (fun vs H Q E h => ?_) (fun cdv A outer s H vs Q E hr h => ?_)
  · obtain ⟨c, cs, rfl, _⟩ := h
    rfl
  · obtain ⟨c, cs, rfl, ⟨ds, ⟨xs, hxs, hxl, hrow⟩, hdl, hcnt⟩, kE, kQ⟩ := h
    refine ⟨_, pss_cons (ps_set (i := 1) scCkendl.nd rfl (Or.inl rfl) pe_bl)
      (pss_one (ps_for (passes_of rfl) rfl (kiEnum K (by rfl) Z.enumerate (pa_cons (pv 0) pa_nil)) (kgTup K (n := 2) rfl (pgs_cons (pg_name (i := 2) scCkendl.nd rfl (Or.inl rfl)) (pgs_cons (pg_name (i := 3) scCkendl.nd rfl (Or.inl rfl)) pgs_nil)))
        (pss_one (ps_if (pt_cmpR oIs (pe_ix (kIxA K) (pv 3) pe_int (fun _ _ => rfl)) pe_non (nomark _))
        (pss_cons (ps_if (pt_val (pv 1))
        (pss_one (ps_raise rfl (takes_of rfl rfl rfl rfl) (pmk_oex TB.oex TB.iC TB.tI GB (hr.mono (by omega)) bB .nil pass0 rfl TB.gC (pa_cons pe_str (pa_cons (pv 2) (pa_cons pe_str pa_nil))))))
        (pss_nil))
      (pss_one (ps_set (i := 1) scCkendl.nd rfl (Or.inl rfl) pe_bl)))
        (pss_nil))))), ?_⟩
    walk_at "go"
    refine for_enum hxs (fun i σ' H' => ∃ q2 q3, σ' = [some (.ref c), some (.bl (decide (((cs.take i).filter Option.isNone).length = 1))), q2, q3] ∧ Same H H' ∧ ((cs.take i).filter Option.isNone).length ≤ 1)
      ⟨none, none, rfl, Same.refl H, by rw [List.take_zero]; exact Nat.zero_le _⟩ (fun i σ' H' _ hp => by obtain ⟨_, _, _, s1, _⟩ := hp; exact fun o h => s1 _ _ h) ?_ ?_
    · rintro i y σ' H1 T hi ⟨q2, q3, rfl, s1, hle⟩ hT
      have hic : i < cs.length := by have := (List.getElem?_eq_some_iff.mp hi).1; omega
      have hz : cs[i]? = some cs[i] := List.getElem?_eq_getElem hic
      obtain ⟨d, hd, hd2⟩ := hcnt i _ hz
      obtain ⟨b, hb, hbd⟩ := hrow i _ hd
      rw [hb] at hi
      cases hi
      have s2 : Same H (upd H1 T (.tup [.int (i : Nat), .ref b])) := same_new s1 hT
      have hTt : upd H1 T (.tup [V.int (i : Nat), .ref b]) T = some (.tup [.int (i : Nat), .ref b]) := upd_same
      have hb2 := hbd.same s2
      have et : cs.take (i + 1) = cs.take i ++ [cs[i]] := by rw [List.take_add_one, hz]; rfl
      generalize upd H1 T (.tup [V.int (i : Nat), .ref b]) = H2 at s2 hTt hb2 ⊢
      walk_at "rd"
      refine it (fun h1 => ?_) (fun h1 => ?_)
      · have hn : cs[i] = none := by
          cases q : cs[i] with
          | none => rfl
          | some n => rw [q] at h1; exact absurd h1 (fun z => nomatch (show V.int n = V.non from z))
        rw [hn] at hz et
        walk_at "rd"
        refine it (fun h2 => ?_) (fun h2 => ?_)
        · unfold tMkO
          walk_at "rd"
          exact r_bad fun d' H' s4 _ h => kE i hz h2 d' H' (s2.trans s4) h
        · walk_at "rd"
          have e0 : ((cs.take i).filter Option.isNone).length = 0 := by omega
          have e1 : ((cs.take (i + 1)).filter Option.isNone).length = 1 := by
            rw [et, List.filter_append, List.length_append, e0]
            rfl
          refine ⟨some (.int (i : Nat)), some (.ref b), ?_, s2, by rw [e1]; exact Nat.le_refl _⟩
          rw [e1]
          rfl
      · walk_at "rd"
        have hn : cs[i].isNone = false := by
          cases q : cs[i] with
          | none => rw [q] at h1; exact absurd rfl h1
          | some n => rfl
        have e1 : (cs.take (i + 1)).filter Option.isNone = (cs.take i).filter Option.isNone := by
          rw [et, List.filter_append, List.filter_cons_of_neg (by rw [hn]; exact Bool.false_ne_true), List.filter_nil, List.append_nil]
        refine ⟨some (.int (i : Nat)), some (.ref b), ?_, s2, by rw [e1]; exact hle⟩
        rw [e1]
    · rintro σ' H1 ⟨q2, q3, rfl, s1, hle⟩
      rw [show xs.length = cs.length by omega, List.take_of_length_le (Nat.le_refl _)] at hle
      exact kQ hle H1 s1
end
end KN
end
section
set_option Elab.async false
set_option linter.all false
set_option maxRecDepth 100000
set_option maxHeartbeats 4000000
set_option pp.maxSteps 1500
set_option pp.deepTerms false
local macro_rules | `(tactic| walk_at "ne") => `(tactic| first
  | assumption | (apply Ne.symm; assumption)
  | exact R.ne_new (by assumption) | exact (R.ne_new (by assumption)).symm
  | exact L2.ne_of_none (by assumption) (by assumption) | exact (L2.ne_of_none (by assumption) (by assumption)).symm
  | exact L2.ne_of_none (by assumption) (R.free_new (by assumption)) | exact (L2.ne_of_none (by assumption) (R.free_new (by assumption))).symm)
local macro_rules | `(tactic| walk_at "at") => `(tactic| first
  | assumption | exact L2.upd_same
  | (refine R.sb (H := ?H) (p := ?p) ?e ?n ?h; (case e => assumption); (case n => walk_at "ne"); (case h => walk_at "at"))
  | (refine R.sm (H := ?H) ?e ?h; (case e => assumption); (case h => walk_at "at"))
  | (refine Eq.trans (L2.upd_ne ?_) ?_ <;> first | walk_at "ne" | walk_at "at"))
local macro_rules | `(tactic| walk_at "sqt") => `(tactic| first | assumption | (refine L2.SqT.of ?_; walk_at "at"))
local macro_rules | `(tactic| walk_at "ty") => `(tactic| first | exact R.tyN | exact R.tyB | exact R.tyI | exact R.tyS | (refine R.tyT (xs := ?xs) ?h; case h => walk_at "at") | (refine R.tyL (xs := ?xs) ?h; case h => walk_at "at"))
local macro_rules | `(tactic| walk_at "kit") => `(tactic| first | exact R.kit_NoneType_tuple | exact R.kit_NoneType_list | exact R.kit_NoneType_bool | exact R.kit_NoneType_str | exact R.kit_NoneType_int | exact R.kit_bool_tuple | exact R.kit_bool_list | exact R.kit_bool_bool | exact R.kit_bool_str | exact R.kit_bool_int | exact R.kit_int_tuple | exact R.kit_int_list | exact R.kit_int_bool | exact R.kit_int_str | exact R.kit_int_int | exact R.kit_str_tuple | exact R.kit_str_list | exact R.kit_str_bool | exact R.kit_str_str | exact R.kit_str_int | exact R.kit_tuple_tuple | exact R.kit_tuple_list | exact R.kit_tuple_bool | exact R.kit_tuple_str | exact R.kit_tuple_int | exact R.kit_list_tuple | exact R.kit_list_list | exact R.kit_list_bool | exact R.kit_list_str | exact R.kit_list_int)
local macro_rules | `(tactic| walk_at "sz") => `(tactic| first | assumption | (refine Nat.le_trans ?_ (show 1000 ≤ PySem.sizeLine by decide); omega) | decide)
local macro_rules | `(tactic| walk_at "szl") => `(tactic| first | assumption | exact Nat.le_of_lt (L2.small1000 (by omega)) | decide | decide +kernel)
local macro_rules | `(tactic| walk_at "sys") => `(tactic| first | assumption | exact KN.SysAt.same (by assumption) (by assumption))
local macro_rules | `(tactic| walk_at "dk") => `(tactic| first | exact R.rowsS _ _ | exact R.rowsM _ _)
local macro_rules | `(tactic| walk_at "sqa") => `(tactic| first | assumption | exact R.SeqA.same (by assumption) (by assumption) | exact R.SeqA.new (by assumption) (by assumption) | (exact Or.inl (by walk_at "at")) | (exact Or.inr (by walk_at "at")))
local macro_rules | `(tactic| walk_at "ix") => `(tactic| first | rfl | (exact L2.atI_nat (by assumption)) | assumption)
local macro_rules | `(tactic| walk_at "cond") => `(tactic| first
  | exact Or.inl (by decide) | exact Or.inr (by decide) | exact Or.inl ⟨by omega, by omega⟩ | exact Or.inr ⟨by omega, by omega⟩
  | (constructor <;> omega) | (show _ ≠ _; omega) | decide | omega)
local macro_rules | `(tactic| walk_at "r1") => `(tactic| first
  | with_reducible refine R.seq ?_ | with_reducible refine R.asg ?_ | with_reducible refine R.ifs ?_ | with_reducible refine R.ret ?_ | with_reducible refine R.retN ?_ | with_reducible refine R.drop ?_ | with_reducible refine R.next ?_
  | with_reducible refine R.op ?_ | ((with_reducible refine R.var (v := ?v) ?h ?q); case h => rfl) | with_reducible refine R.c ?_ | with_reducible refine R.tst ?_ | with_reducible refine R.tb_ ?_ | with_reducible refine R.ex ?_
  | with_reducible refine R.i0 ?_ | with_reducible refine R.eqI ?_ | with_reducible refine R.neI ?_ | ((with_reducible refine R.ic ?_ ?_); · walk_at "cond") | with_reducible refine R.u0 ?_ | with_reducible refine R.un ?_
  | ((with_reducible refine R.eq ?_ ?_); · rfl) | ((with_reducible refine R.ne ?_ ?_); · rfl)
  | with_reducible refine R.and_ ?_ | with_reducible refine R.or_ ?_ | with_reducible refine R.not_ ?_ | with_reducible refine R.ife ?_ | with_reducible refine R.chain ?_
  | with_reducible refine R.cons ?_ | with_reducible refine R.nil ?_ | with_reducible refine R.call ?_ | with_reducible refine R.cb ?_ | with_reducible refine R.bm ?_
  | with_reducible refine R.gname ?_ | with_reducible refine R.gsub ?_ | with_reducible refine R.gnil ?_ | with_reducible refine R.gcons ?_ | with_reducible refine R.yes ?_
  | with_reducible refine R.int1 ?_ | ((with_reducible refine R.lenL (xs := ?xs) ?h ?q); case h => walk_at "at")
  | ((with_reducible refine R.ixL (xs := ?xs) (v := ?v) ?h ?e ?q); (case h => walk_at "at"); (case e => walk_at "ix"))
  | ((with_reducible refine R.setL (xs := ?xs) (n := ?n) ?h ?e ?q); (case h => walk_at "at"); (case e => rfl))
  | ((with_reducible refine R.append (xs := ?xs) ?h ?e ?q); (case h => walk_at "at"); (case e => walk_at "cond"))
  | with_reducible refine R.is_ ?_ | with_reducible refine R.isnot ?_ | with_reducible refine R.andV ?_ | with_reducible refine R.orV ?_ | with_reducible refine R.notV ?_
  | ((with_reducible refine R.isi (s := ?s) (b := ?b) ?ty ?h ?q); (case ty => walk_at "ty"); (case h => walk_at "kit"))
  | ((with_reducible refine R.addS ?h ?q); (case h => walk_at "sz")) | with_reducible refine R.max2 ?_ | with_reducible refine R.min2 ?_
  | ((with_reducible refine R.lenStr ?h ?q); (case h => walk_at "szl")) | ((with_reducible refine R.ixS (n := ?n) ?h ?e ?q); (case h => walk_at "szl"); (case e => walk_at "ix"))
  | ((with_reducible refine R.tyl (xs := ?xs) ?h ?q); (case h => walk_at "at")) | with_reducible refine R.itlist ?_ | with_reducible refine R.ittup ?_ | with_reducible refine R.m1 ?_ | with_reducible refine R.m1s ?_ | with_reducible refine R.leS ?_ | with_reducible refine R.itstr ?_ | with_reducible refine R.itstrE ?_ | with_reducible refine R.lc ?_ | with_reducible refine R.lc2 ?_ | with_reducible refine R.ckw ?_ | with_reducible refine R.par ?_ | with_reducible refine R.parE ?_ | with_reducible refine R.itrev ?_ | with_reducible refine R.dsetd ?_ | with_reducible refine R.dnotin_ ?_ | with_reducible refine R.for_ ?_ | ((with_reducible refine R.all_ (bs := ?bs) ?h ?q); (case h => walk_at "at"))
  | with_reducible refine R.rng1 ?_ | ((with_reducible refine R.rngE ?h ?q); (case h => (constructor <;> omega)))
  | ((with_reducible refine R.lenT (xs := ?xs) ?h ?q); (case h => walk_at "sqt")) | ((with_reducible refine R.ixT (xs := ?xs) (v := ?v) ?h ?e ?q); (case h => walk_at "sqt"); (case e => walk_at "ix"))
  | ((refine R.itlE (xs := ?xs) ?h ?q); (case h => walk_at "at")) | ((refine R.ittE (xs := ?xs) ?h ?q); (case h => walk_at "at"))
  | ((refine R.gseq (xs := ?xs) ?h ?e ?q); (case h => walk_at "sqa"); (case e => rfl)) | ((refine R.ixA (xs := ?xs) (v := ?v) ?h ?e ?q); (case h => walk_at "sqa"); (case e => walk_at "ix")) | ((refine R.lenA (xs := ?xs) ?h ?q); (case h => walk_at "sqa"))
  | ((with_reducible refine R.gtup (xs := ?xs) ?h ?e ?q); (case h => walk_at "sqt"); (case e => rfl))
  | with_reducible refine R.din_ ?_ | with_reducible refine R.dput_ ?_
  | with_reducible refine R.dget2_ ?_ | ((with_reducible refine R.aug_ (x := ?x) ?h ?q); case h => rfl) | with_reducible refine R.ipI_ ?_
  | with_reducible refine R.rng2 ?_ | ((with_reducible refine R.rngE2 ?h ?q); (case h => (refine ⟨?_, ?_, ?_, ?_⟩ <;> omega)))
  | with_reducible refine R.brk ?_ | with_reducible refine R.intB ?_ | with_reducible refine R.meth_ ?_ | ((refine KN.methS (rs := ?rs) (ms := ?ms) ?h (fun _ _ _ _ => rfl) ?q); case h => walk_at "sys")
  | with_reducible refine R.sl_ ?_ | with_reducible refine R.np_ ?_ | with_reducible refine R.pt_ ?_ | with_reducible refine R.ptE ?_ | with_reducible refine R.dget_ ?_ | with_reducible refine R.revL_ ?_
  | ((refine R.dgetS (kvs := ?kvs) (v := ?v) ?h ?e ?q); (case h => walk_at "at"); (case e => walk_at "dk"))
  | with_reducible refine R.sfld ?_ | with_reducible refine R.fld_ ?_ | with_reducible refine R.dc ?_
  | with_reducible refine R.dget1_ ?_
  | with_reducible refine R.itseq ?_ | with_reducible refine R.itenum ?_
  | with_reducible refine R.itT ?_ | with_reducible refine R.itF ?_ | with_reducible refine R.itNT ?_ | with_reducible refine R.itNF ?_
  | (with_reducible refine R.tup ?_) | (with_reducible refine R.lst ?_))
local macro_rules | `(tactic| walk_at "rd") => `(tactic| (repeat (first | walk_at "r1" | (dsimp only [Int.reduceToNat, List.set_cons_succ, List.set_cons_zero, List.length_cons, List.length_nil, List.nil_append, List.cons_append, List.append_nil]))))
local macro_rules | `(tactic| walk_at "go") => `(tactic| (rw [R.start_eq]; dsimp only [R.startE, List.map_nil]; walk_at "rd"))
namespace KN
open PySem L2 SX R
open C8 (Cal Def cal0 pe_c pe_gc fnScope fnBody)
section
variable {P : Program} {w : World} {K : PySem.W.Frag} {mg : Str → Option Value} {base : Heap}
abbrev sSysI : Stmt := inClass (top 21) 0
theorem scSysI : FnScope ["self", "simple", "multipliers", "row", "word", "value"] ["self", "simple", "multipliers"] (defScope sSysI) := ⟨rfl, rfl, rfl, by decide +kernel, rfl, by decide +kernel, by decide +kernel⟩
/-- what stands of System, at S -/
structure SysK (K : PySem.W.Frag) (S : Addr) : Prop where
  cl : Cls K S
  nS : NoAttr K S "simple"
  nM : NoAttr K S "multipliers"
  nV : NoAttr K S "_values"
  nR : NoAttr K S "_rows"
structure GoodSys (rs : List SR) (ms : List MR) : Prop where
  s : ∀ r ∈ rs, GoodS r
  m : ∀ r ∈ ms, GoodM r
  nd : (rs.map (·.w) ++ ms.map (·.w)).Nodup
  sl : rs.length ≤ 24
  ml : ms.length ≤ 6
  one : (ms.filter fun r => r.c.isNone).length ≤ 1
def SRows (ds : List (List V)) (os : List (Option Str)) : Prop := os.length = ds.length ∧ ∀ (i : Nat) (d : List V) (o : Option Str), ds[i]? = some d → os[i]? = some o → SShape d ∧ o = sF d
def MRows (ds : List (List V)) (os : List (Option Str)) : Prop := os.length = ds.length ∧ ∀ (i : Nat) (d : List V) (o : Option Str), ds[i]? = some d → os[i]? = some o → MShape d o
/-- what is told of two lists that make no system -/
inductive Fault : List (List V) → List (List V) → V → V → V → Prop
  | many1 {ds es : List (List V)} {os : List (Option Str)} (h : SRows ds os) (l : 24 < ds.length) (l2 : ds.length ≤ 1000) : Fault ds es (.str "simple") .non (.str "many")
  | row1 {ds es : List (List V)} {os : List (Option Str)} (h : SRows ds os) (l : ds.length ≤ 24) {j : Nat} {r : Str} (hj : os[j]? = some (some r)) (ha : ∀ i, i < j → os[i]? = some none) : Fault ds es (.str "simple") (.int j) (.str r)
  | many2 {rs : List SR} {es : List (List V)} {os : List (Option Str)} (g : ∀ r ∈ rs, GoodS r) (gl : rs.length ≤ 24) (h : MRows es os) (l : 6 < es.length) (l2 : es.length ≤ 1000) : Fault (rs.map srV) es (.str "multipliers") .non (.str "many")
  | row2 {rs : List SR} {es : List (List V)} {os : List (Option Str)} (g : ∀ r ∈ rs, GoodS r) (gl : rs.length ≤ 24) (h : MRows es os) (l : es.length ≤ 6) {j : Nat} {r : Str} (hj : os[j]? = some (some r)) (ha : ∀ i, i < j → os[i]? = some none) :
      Fault (rs.map srV) es (.str "multipliers") (.int j) (.str r)
  | twice {rs : List SR} {ms : List MR} (g : ∀ r ∈ rs, GoodS r) (gl : rs.length ≤ 24) (gm : ∀ r ∈ ms, GoodM r) (ml : ms.length ≤ 6) {i : Nat} {z : Str} (hi : (rs.map (·.w) ++ ms.map (·.w))[i]? = some z)
      (hn : ((rs.map (·.w) ++ ms.map (·.w)).take i).Nodup) (hm : z ∈ (rs.map (·.w) ++ ms.map (·.w)).take i) : Fault (rs.map srV) (ms.map mrV) (partV rs.length i) (ixV rs.length i) (.str "twice")
  | endless {rs : List SR} {ms : List MR} (g : ∀ r ∈ rs, GoodS r) (gl : rs.length ≤ 24) (gm : ∀ r ∈ ms, GoodM r) (ml : ms.length ≤ 6) (hn : (rs.map (·.w) ++ ms.map (·.w)).Nodup) {i : Nat} (hi : (ms.map (·.c))[i]? = some none)
      (h1 : (((ms.map (·.c)).take i).filter Option.isNone).length = 1) : Fault (rs.map srV) (ms.map mrV) (.str "multipliers") (.int i) (.str "endless")
def sysFs (s m v r : Addr) : List (Str × V) := [("simple", .ref s), ("multipliers", .ref m), ("_values", .ref v), ("_rows", .ref r)]
/-- a system stands at x -/
def SysAt (S : Addr) (H : Hp) (x : Addr) (rs : List SR) (ms : List MR) : Prop := ∃ (dx s m v r : Addr) (xs ys : List V), H x = some (.ins S dx (sysFs s m v r)) ∧ H s = some (.tup xs) ∧ TupsAt H xs (rs.map srV) ∧ H m = some (.tup ys) ∧ TupsAt H ys (ms.map mrV) ∧
  H v = some (.dK (rs.map fun r => ((Sum.inr r.w : Key), V.int r.v))) ∧ H r = some (.dK (((ms.map (·.w)).zip ys).map fun q => ((Sum.inr q.1 : Key), q.2)))
theorem SysAt.same {S : Addr} {H H' : Hp} {x : Addr} {rs : List SR} {ms : List MR} (s : Same H H') (h : SysAt S H x rs ms) : SysAt S H' x rs ms := by
  obtain ⟨dx, a, m, v, r, xs, ys, h1, h2, h3, h4, h5, h6, h7⟩ := h
  exact ⟨dx, a, m, v, r, xs, ys, s _ _ h1, s _ _ h2, h3.keep (fun a d q => s _ _ q), s _ _ h4, h5.keep (fun a d q => s _ _ q), s _ _ h6, s _ _ h7⟩
def spSysI (S C : Addr) : Sp := fun vs H Q E => ∃ (x dx a c : Addr) (ds es : List (List V)), vs = [.ref x, .ref a, .ref c] ∧ H x = some (.ins S dx []) ∧ RowsIn H a ds ∧ RowsIn H c es ∧
  ((∃ p n r, Fault ds es p n r ∧ ∀ (d : Addr) (H' : Hp), Same H H' → H' d = some (.xd (badFs p n r)) → E (.ref C) (some d) H') ∨
   (∃ rs ms, ds = rs.map srV ∧ es = ms.map mrV ∧ GoodSys rs ms ∧ ∀ H' : Hp, SameBut x H H' → SysAt S H' x rs ms → Q .non H'))
theorem r_ck_many {C fS fM a f : Addr} {H : Hp} {Q : VK} {E : XK} {part : Str} {most : Int} {ds : List (List V)} {os : List (Option Str)} (hR : RowsIn H a ds) (kind : (f = fS ∧ SRows ds os) ∨ (f = fM ∧ MRows ds os)) (l : most < ds.length) (l2 : ds.length ≤ 1000)
    (k : ∀ (d : Addr) (H' : Hp), Same H H' → H' d = some (.xd (badFs (.str part) .non (.str "many"))) → E (.ref C) (some d) H') : spCheck C fS fM [.str part, .ref a, .int most, .ref f] H Q E := by
  refine ⟨part, a, f, most, ds, os, rfl, hR, ?_, ?_, l2, ?_, fun _ => k, fun z => absurd z (by omega), fun z => absurd z (by omega)⟩
  · rcases kind with ⟨h, _⟩ | ⟨h, _⟩
    · exact .inl h
    · exact .inr h
  · rcases kind with ⟨_, h, _⟩ | ⟨_, h, _⟩ <;> exact h
  · intro i d o h1 h2
    rcases kind with ⟨h, _, g⟩ | ⟨h, _, g⟩
    · exact .inl ⟨h, g i d o h1 h2⟩
    · exact .inr ⟨h, g i d o h1 h2⟩
theorem r_ck_row {C fS fM a f : Addr} {H : Hp} {Q : VK} {E : XK} {part : Str} {most : Int} {ds : List (List V)} {os : List (Option Str)} (hR : RowsIn H a ds) (kind : (f = fS ∧ SRows ds os) ∨ (f = fM ∧ MRows ds os)) (l : (ds.length : Int) ≤ most) (m1 : most ≤ 1000)
    {j : Nat} {r : Str} (hj : os[j]? = some (some r)) (ha : ∀ i, i < j → os[i]? = some none)
    (k : ∀ (d : Addr) (H' : Hp), Same H H' → H' d = some (.xd (badFs (.str part) (.int j) (.str r))) → E (.ref C) (some d) H') : spCheck C fS fM [.str part, .ref a, .int most, .ref f] H Q E := by
  have ol : os.length = ds.length := by rcases kind with ⟨_, h, _⟩ | ⟨_, h, _⟩ <;> exact h
  have hjl : j < os.length := (List.getElem?_eq_some_iff.mp hj).1
  refine ⟨part, a, f, most, ds, os, rfl, hR, ?_, ol, by omega, ?_, fun z => absurd z (by omega), fun _ j' r' hj' ha' d H' s1 e => ?_, fun _ z => ?_⟩
  · rcases kind with ⟨h, _⟩ | ⟨h, _⟩
    · exact .inl h
    · exact .inr h
  · intro i d o h1 h2
    rcases kind with ⟨h, _, g⟩ | ⟨h, _, g⟩
    · exact .inl ⟨h, g i d o h1 h2⟩
    · exact .inr ⟨h, g i d o h1 h2⟩
  · have ej : j' = j := by
      rcases Nat.lt_trichotomy j' j with q | q | q
      · rw [ha j' q] at hj'; cases hj'
      · exact q
      · rw [ha' j q] at hj; cases hj
    subst ej
    rw [hj] at hj'
    cases hj'
    exact k d H' s1 e
  · rw [z j (by omega)] at hj
    cases hj
theorem r_ck_ok {C fS fM a f : Addr} {H : Hp} {Q : VK} {E : XK} {part : Str} {most : Int} {ds : List (List V)} {os : List (Option Str)} (hR : RowsIn H a ds) (kind : (f = fS ∧ SRows ds os) ∨ (f = fM ∧ MRows ds os)) (l : (ds.length : Int) ≤ most) (m1 : most ≤ 1000)
    (hn : ∀ (i : Nat) (o : Option Str), os[i]? = some o → o = none) (k : ∀ H', Same H H' → Q .non H') : spCheck C fS fM [.str part, .ref a, .int most, .ref f] H Q E := by
  have ol : os.length = ds.length := by rcases kind with ⟨_, h, _⟩ | ⟨_, h, _⟩ <;> exact h
  refine ⟨part, a, f, most, ds, os, rfl, hR, ?_, ol, by omega, ?_, fun z => absurd z (by omega), fun _ j' r' hj' _ _ _ _ _ => ?_, fun _ _ => k⟩
  · rcases kind with ⟨h, _⟩ | ⟨h, _⟩
    · exact .inl h
    · exact .inr h
  · intro i d o h1 h2
    rcases kind with ⟨h, _, g⟩ | ⟨h, _, g⟩
    · exact .inl ⟨h, g i d o h1 h2⟩
    · exact .inr ⟨h, g i d o h1 h2⟩
  · have := hn _ _ hj'
    cases this
theorem len_good {z : Str} (h : GoodW z) : z.length ≤ 1000 := by
  obtain ⟨cs, rfl, h1, h2, _⟩ := h
  rw [S_len]; omega
theorem sfc_good {r : SR} (h : GoodS r) : sF (srV r) = none := by
  show sfc r.w r.v = none
  unfold sfc
  rw [if_pos (okW_of h.w), if_pos ⟨h.lo, h.hi⟩]
theorem mfc_good {m : MR} (h : GoodM m) : mfc m.w m.v m.c m.r = none := by
  unfold mfc
  have e1 : cOk m.c = true := by
    cases q : m.c with
    | none => rfl
    | some n => obtain ⟨a, b, _⟩ := h.c n q; exact decide_eq_true ⟨a, b⟩
  have e2 : lOk m.v m.r m.c = true := by
    cases q : m.c with
    | none => rfl
    | some n => obtain ⟨_, _, c⟩ := h.c n q; exact decide_eq_true c
  rw [if_pos (okW_of h.w), if_pos ⟨h.lo, h.hi⟩, if_pos e1, if_pos ⟨h.r0, h.r1⟩, if_pos e2]
theorem srows_good {rs : List SR} (g : ∀ r ∈ rs, GoodS r) : SRows (rs.map srV) (List.replicate rs.length none) := by
  refine ⟨by simp, fun i d o h1 h2 => ?_⟩
  rw [List.getElem?_map] at h1
  cases q : rs[i]? with
  | none => rw [q] at h1; cases h1
  | some r =>
    rw [q] at h1
    cases h1
    have hr := g r (List.mem_of_getElem? q)
    have ho : o = none := by
      have := List.mem_of_getElem? h2
      exact (List.mem_replicate.mp this).2
    subst ho
    exact ⟨.yes _ _ (len_good hr.w), (sfc_good hr).symm⟩
theorem mrows_good {ms : List MR} (g : ∀ r ∈ ms, GoodM r) : MRows (ms.map mrV) (List.replicate ms.length none) := by
  refine ⟨by simp, fun i d o h1 h2 => ?_⟩
  rw [List.getElem?_map] at h1
  cases q : ms[i]? with
  | none => rw [q] at h1; cases h1
  | some r =>
    rw [q] at h1
    cases h1
    have hr := g r (List.mem_of_getElem? q)
    have ho : o = none := by
      have := List.mem_of_getElem? h2
      exact (List.mem_replicate.mp this).2
    subst ho
    have z := MShape.yes r.w r.v r.c r.u r.r (len_good hr.w)
    rw [mfc_good hr] at z
    exact z
theorem rep_none {n : Nat} (i : Nat) (o : Option Str) (h : (List.replicate n (none : Option Str))[i]? = some o) : o = none := (List.mem_replicate.mp (List.mem_of_getElem? h)).2
theorem words_s {H : Hp} {a : Addr} {rs : List SR} (h : RowsIn H a (rs.map srV)) : WordsIn H a (rs.map (·.w)) := by
  refine ⟨_, h, by simp, fun i z e => ?_⟩
  rw [List.getElem?_map] at e
  cases q : rs[i]? with
  | none => rw [q] at e; cases e
  | some r => rw [q] at e; cases e; exact ⟨[.int r.v], by rw [List.getElem?_map, q]; rfl⟩
theorem words_m {H : Hp} {a : Addr} {ms : List MR} (h : RowsIn H a (ms.map mrV)) : WordsIn H a (ms.map (·.w)) := by
  refine ⟨_, h, by simp, fun i z e => ?_⟩
  rw [List.getElem?_map] at e
  cases q : ms[i]? with
  | none => rw [q] at e; cases e
  | some r => rw [q] at e; cases e; exact ⟨[.int r.v, ocnt r.c, .bl r.u, .int r.r], by rw [List.getElem?_map, q]; rfl⟩
theorem counts_m {H : Hp} {a : Addr} {ms : List MR} (h : RowsIn H a (ms.map mrV)) : CountsIn H a (ms.map (·.c)) := by
  refine ⟨_, h, by simp, fun i o e => ?_⟩
  rw [List.getElem?_map] at e
  cases q : ms[i]? with
  | none => rw [q] at e; cases e
  | some r => rw [q] at e; cases e; exact ⟨mrV r, by rw [List.getElem?_map, q]; rfl, rfl⟩
theorem none_two {cs : List (Option Int)} {i : Nat} (hi : cs[i]? = some none) (h1 : ((cs.take i).filter Option.isNone).length = 1) {j : Nat} (hj : i < j) : 2 ≤ ((cs.take j).filter Option.isNone).length := by
  have e1 : cs.take (i + 1) = cs.take i ++ [none] := by rw [List.take_add_one, hi]; rfl
  have e2 : (cs.take j).take (i + 1) = cs.take (i + 1) := by rw [List.take_take]; congr 1; omega
  have e3 : ((cs.take (i + 1)).filter Option.isNone).length = 2 := by
    rw [e1, List.filter_append, List.length_append, h1]
    rfl
  have sl : (cs.take (i + 1)).Sublist (cs.take j) := by rw [← e2]; exact List.take_sublist _ _
  have := (sl.filter Option.isNone).length_le
  omega
theorem none_all {cs : List (Option Int)} {i : Nat} (hi : cs[i]? = some none) (h1 : ((cs.take i).filter Option.isNone).length = 1) : ¬ (cs.filter Option.isNone).length ≤ 1 := fun h => by
  have hil := (List.getElem?_eq_some_iff.mp hi).1
  have := none_two hi h1 hil
  rw [List.take_length] at this
  omega
theorem none_count (ms : List MR) : ((ms.map (·.c)).filter Option.isNone).length = (ms.filter fun r => r.c.isNone).length := by
  rw [List.filter_map, List.length_map]
  rfl
theorem seqA_putI {H : Hp} {a x S dx : Addr} {xs : List V} {fs : List (Str × V)} {o : HO} (h : SeqA H a xs) (hx : H x = some (.ins S dx fs)) : SeqA (upd H x o) a xs := by
  rcases h with h | h
  · exact .inl (by rw [upd_ne (ne_of h hx (by intro z; cases z))]; exact h)
  · exact .inr (by rw [upd_ne (ne_of h hx (by intro z; cases z))]; exact h)
theorem RowsIn.putI {H : Hp} {a x S dx : Addr} {ds : List (List V)} {fs : List (Str × V)} {o : HO} (h : RowsIn H a ds) (hx : H x = some (.ins S dx fs)) : RowsIn (upd H x o) a ds := by
  obtain ⟨xs, h1, h2, h3⟩ := h
  exact ⟨xs, seqA_putI h1 hx, h2, fun i d e => let ⟨b, hb, hd⟩ := h3 i d e; ⟨b, hb, seqA_putI hd hx⟩⟩
theorem keep_ins {H : Hp} {x S dx : Addr} {fs : List (Str × V)} {o : HO} (hx : H x = some (.ins S dx fs)) : TupKeep H (upd H x o) := fun b d h => by
  rw [upd_ne (ne_of h hx (by intro z; cases z))]; exact h
theorem pf2 (u v : V) : putF "multipliers" v [("simple", u)] = ([("simple", u), ("multipliers", v)] : List (Str × V)) := by
  unfold putF; rw [if_neg (by decide +kernel)]; rfl
theorem pf3 (u v z : V) : putF "_values" z [("simple", u), ("multipliers", v)] = ([("simple", u), ("multipliers", v), ("_values", z)] : List (Str × V)) := by
  unfold putF; rw [if_neg (by decide +kernel)]; unfold putF; rw [if_neg (by decide +kernel)]; rfl
theorem pf4 (u v z y : V) : putF "_rows" y [("simple", u), ("multipliers", v), ("_values", z)] = ([("simple", u), ("multipliers", v), ("_values", z), ("_rows", y)] : List (Str × V)) := by
  unfold putF; rw [if_neg (by decide +kernel)]; unfold putF; rw [if_neg (by decide +kernel)]; unfold putF; rw [if_neg (by decide +kernel)]; rfl
theorem put_next {α : Type} (f : α → Key × V) (l : List α) (a : α) (h : (f a).1 ∉ l.map fun b => (f b).1) : putK (l.map f) (f a).1 (f a).2 = (l ++ [a]).map f := by
  have e : valV (l.map f) (f a).1 = none := by
    cases q : valV (l.map f) (f a).1 with
    | none => rfl
    | some v =>
      have := valV_in q
      rw [List.map_map] at this
      exact absurd this h
  rw [putK_new _ e, List.map_append]
  rfl
theorem not_before {α β : Type} {g : α → β} {l : List α} (hn : (l.map g).Nodup) {i : Nat} {a : α} (h : l[i]? = some a) : g a ∉ (l.take i).map g := fun hm => by
  have e : l.take (i + 1) = l.take i ++ [a] := by rw [List.take_add_one, h]; rfl
  have n2 : ((l.take (i + 1)).map g).Nodup := hn.sublist ((List.take_sublist _ _).map g)
  rw [e, List.map_append, List.nodup_append] at n2
  exact n2.2.2 _ hm _ (by simp) rfl
theorem ok_sysI (Z : Zs mg) (CC : Cs mg) {S C fS fM : Addr} (TS : SysK K S) (g_simple_fault : ∃ u, mg "simple_fault" = some u ∧ RelV (.ref fS) u) (g_multiplier_fault : ∃ u, mg "multiplier_fault" = some u ∧ RelV (.ref fM) u)
    (c_check_rows : CalX P w K mg base 3 "check_rows" (spCheck C fS fM)) (c_check_twice : CalX P w K mg base 3 "check_twice" (spTwice C)) (c_check_endless : CalX P w K mg base 3 "check_endless" (spEndl C))
    {f : Addr} {fd : FuncData} (F : Fun K "__init__" "System.__init__" sSysI f fd) : FnOk P w K mg base (L2.CX P w) 4 f fd ["self", "simple", "multipliers"] (spSysI S C) := by
  refine F.okX scSysI (fun vs H Q E h => ?_) (fun cdv A outer s H vs Q E hr h => ?_)
  · obtain ⟨x, dx, a, c, ds, es, rfl, _⟩ := h
    rfl
  · obtain ⟨x, dx, a, c, ds, es, rfl, hx, hA, hC, h⟩ := h
    refine ⟨_, pss_cons (ps_expr (pe_cx c_check_rows hr (by omega) (takes_of rfl rfl rfl rfl) (by rfl) (pa_cons pe_str (pa_cons (pv 1) (pa_cons (pe_gc (by rfl) CC.MOST_SIMPLE) (pa_cons (pe_gc (by rfl) g_simple_fault) pa_nil))))))
      (pss_cons (ps_expr (pe_cx c_check_rows hr (by omega) (takes_of rfl rfl rfl rfl) (by rfl) (pa_cons pe_str (pa_cons (pv 2) (pa_cons (pe_gc (by rfl) CC.MOST_MULTIPLIERS) (pa_cons (pe_gc (by rfl) g_multiplier_fault) pa_nil))))))
      (pss_cons (ps_expr (pe_cx c_check_twice hr (by omega) (takes_of rfl rfl rfl rfl) (by rfl) (pa_cons (pv 1) (pa_cons (pv 2) pa_nil))))
      (pss_cons (ps_expr (pe_cx c_check_endless hr (by omega) (takes_of rfl rfl rfl rfl) (by rfl) (pa_cons (pv 2) pa_nil)))
      (pss_cons (kFldS K (ps_fld (pv 0) (pe_callTy (kTuple K) (by rfl) Z.tuple (by decide +kernel) (pa_cons (pe_lc (own := [("row", 3)]) (g := gName 3) (tt := tYes) rfl scSysI.nd (kiSeq K (pv 1)) (blkOk_by (own := [("row", 3)]) (N := ["self", "simple", "multipliers", "row", "word", "value"]) (sc := defScope sSysI) (by decide +kernel)) (fun _ _ _ _ _ => (pg_name (i := 3) scSysI.nd rfl (Or.inl rfl))) (fun _ _ _ _ _ => pts_nil) (fun _ _ _ _ _ => pe_callTy (kTuple K) (by rfl) Z.tuple (by decide +kernel) (pa_cons (pv 3) pa_nil))) pa_nil)) rfl))
      (pss_cons (kFldS K (ps_fld (pv 0) (pe_callTy (kTuple K) (by rfl) Z.tuple (by decide +kernel) (pa_cons (pe_lc (own := [("row", 3)]) (g := gName 3) (tt := tYes) rfl scSysI.nd (kiSeq K (pv 2)) (blkOk_by (own := [("row", 3)]) (N := ["self", "simple", "multipliers", "row", "word", "value"]) (sc := defScope sSysI) (by decide +kernel)) (fun _ _ _ _ _ => (pg_name (i := 3) scSysI.nd rfl (Or.inl rfl))) (fun _ _ _ _ _ => pts_nil) (fun _ _ _ _ _ => pe_callTy (kTuple K) (by rfl) Z.tuple (by decide +kernel) (pa_cons (pv 3) pa_nil))) pa_nil)) rfl))
      (pss_cons (kFldS K (ps_fld (pv 0) (pe_dc (own := [("word", 4), ("value", 5)]) (tt := tYes) rfl scSysI.nd (kiT K (kFld K (pv 0))) (blkOk_by (own := [("word", 4), ("value", 5)]) (N := ["self", "simple", "multipliers", "row", "word", "value"]) (sc := defScope sSysI) (by decide +kernel)) (fun _ _ _ _ _ => (kgTup K (n := 2) rfl (pgs_cons (pg_name (i := 4) scSysI.nd rfl (Or.inl rfl)) (pgs_cons (pg_name (i := 5) scSysI.nd rfl (Or.inl rfl)) pgs_nil)))) (fun _ _ _ _ _ => pts_nil) (fun _ _ _ _ _ => pv 4) (fun _ _ _ _ _ => pv 5)) rfl))
      (pss_one (kFldS K (ps_fld (pv 0) (pe_dc (own := [("row", 3)]) (tt := tYes) rfl scSysI.nd (kiT K (kFld K (pv 0))) (blkOk_by (own := [("row", 3)]) (N := ["self", "simple", "multipliers", "row", "word", "value"]) (sc := defScope sSysI) (by decide +kernel)) (fun _ _ _ _ _ => (pg_name (i := 3) scSysI.nd rfl (Or.inl rfl))) (fun _ _ _ _ _ => pts_nil) (fun _ _ _ _ _ => pe_ix (kIxA K) (pv 3) pe_int (fun _ _ => rfl)) (fun _ _ _ _ _ => pv 3)) rfl))))))))), ?_⟩
    walk_at "go"
    rcases h with ⟨p, n, r, hf, kE⟩ | ⟨rs, ms, rfl, rfl, hg, kQ⟩
    · cases hf with
      | many1 h l l2 => exact r_ck_many hA (.inl ⟨rfl, h⟩) (by omega) l2 kE
      | row1 h l hj ha => exact r_ck_row hA (.inl ⟨rfl, h⟩) (by omega) (by decide) hj ha kE
      | @many2 rs es os g gl h l l2 =>
        refine r_ck_ok hA (.inl ⟨rfl, srows_good g⟩) (by rw [List.length_map]; omega) (by decide) rep_none fun H1 s1 => ?_
        walk_at "rd"
        exact r_ck_many (hC.same s1) (.inr ⟨rfl, h⟩) (by omega) l2 fun d H' s2 e => kE d H' (s1.trans s2) e
      | @row2 rs es os g gl h l j r hj ha =>
        refine r_ck_ok hA (.inl ⟨rfl, srows_good g⟩) (by rw [List.length_map]; omega) (by decide) rep_none fun H1 s1 => ?_
        walk_at "rd"
        exact r_ck_row (hC.same s1) (.inr ⟨rfl, h⟩) (by omega) (by decide) hj ha fun d H' s2 e => kE d H' (s1.trans s2) e
      | @twice rs ms g gl gm ml i z hi hn hm =>
        refine r_ck_ok hA (.inl ⟨rfl, srows_good g⟩) (by rw [List.length_map]; omega) (by decide) rep_none fun H1 s1 => ?_
        walk_at "rd"
        refine r_ck_ok (hC.same s1) (.inr ⟨rfl, mrows_good gm⟩) (by rw [List.length_map]; omega) (by decide) rep_none fun H2 s2 => ?_
        walk_at "rd"
        refine ⟨a, c, rs.map (·.w), ms.map (·.w), rfl, words_s (hA.same (s1.trans s2)), words_m (hC.same (s1.trans s2)), by rw [List.length_map, List.length_map]; omega, fun i' z' hi' hn' hm' d H' s3 e => ?_, fun hnd => ?_⟩
        · have ei : i' = i := by
            have key : ∀ (u v : Nat) (y : Str), u < v → (rs.map (·.w) ++ ms.map (·.w))[u]? = some y → y ∈ (rs.map (·.w) ++ ms.map (·.w)).take u → ¬ ((rs.map (·.w) ++ ms.map (·.w)).take v).Nodup := fun u v y huv hu hy hnd => by
              have e1 : (rs.map (·.w) ++ ms.map (·.w)).take (u + 1) = (rs.map (·.w) ++ ms.map (·.w)).take u ++ [y] := by rw [List.take_add_one, hu]; rfl
              have e2 : ((rs.map (·.w) ++ ms.map (·.w)).take v).take (u + 1) = (rs.map (·.w) ++ ms.map (·.w)).take (u + 1) := by rw [List.take_take]; congr 1; omega
              have h3 : ((rs.map (·.w) ++ ms.map (·.w)).take (u + 1)).Nodup := by rw [← e2]; exact hnd.sublist (List.take_sublist _ _)
              rw [e1, List.nodup_append] at h3
              exact h3.2.2 y hy y (List.mem_singleton.mpr rfl) rfl
            rcases Nat.lt_trichotomy i' i with q | q | q
            · exact absurd hn (key i' i z' q hi' hm')
            · exact q
            · exact absurd hn' (key i i' z q hi hm)
          subst ei
          rw [List.length_map] at e
          exact kE d H' ((s1.trans s2).trans s3) e
        · have hil : i < (rs.map (·.w) ++ ms.map (·.w)).length := (List.getElem?_eq_some_iff.mp hi).1
          have e1 : (rs.map (·.w) ++ ms.map (·.w)).take (i + 1) = (rs.map (·.w) ++ ms.map (·.w)).take i ++ [z] := by rw [List.take_add_one, hi]; rfl
          have h3 : ((rs.map (·.w) ++ ms.map (·.w)).take (i + 1)).Nodup := hnd.sublist (List.take_sublist _ _)
          rw [e1, List.nodup_append] at h3
          exact absurd rfl (h3.2.2 z hm z (List.mem_singleton.mpr rfl))
      | @endless rs ms g gl gm ml hn i hi h1 =>
        refine r_ck_ok hA (.inl ⟨rfl, srows_good g⟩) (by rw [List.length_map]; omega) (by decide) rep_none fun H1 s1 => ?_
        walk_at "rd"
        refine r_ck_ok (hC.same s1) (.inr ⟨rfl, mrows_good gm⟩) (by rw [List.length_map]; omega) (by decide) rep_none fun H2 s2 => ?_
        walk_at "rd"
        refine ⟨a, c, rs.map (·.w), ms.map (·.w), rfl, words_s (hA.same (s1.trans s2)), words_m (hC.same (s1.trans s2)), by rw [List.length_map, List.length_map]; omega, fun i' z' hi' hn' hm' d H' s3 e => ?_, fun hnd H3 s3 => ?_⟩
        · have e1 : (rs.map (·.w) ++ ms.map (·.w)).take (i' + 1) = (rs.map (·.w) ++ ms.map (·.w)).take i' ++ [z'] := by rw [List.take_add_one, hi']; rfl
          have h3 : ((rs.map (·.w) ++ ms.map (·.w)).take (i' + 1)).Nodup := hn.sublist (List.take_sublist _ _)
          rw [e1, List.nodup_append] at h3
          exact absurd rfl (h3.2.2 z' hm' z' (List.mem_singleton.mpr rfl))
        · walk_at "rd"
          refine ⟨c, ms.map (·.c), rfl, counts_m (hC.same ((s1.trans s2).trans s3)), fun i' hi' h1' d H' s4 e => ?_, fun hle => ?_⟩
          · have ei : i' = i := by
              rcases Nat.lt_trichotomy i' i with q | q | q
              · have := none_two hi' h1' q
                omega
              · exact q
              · have := none_two hi h1 q
                omega
            subst ei
            exact kE d H' (((s1.trans s2).trans s3).trans s4) e
          · exact absurd hle (none_all hi h1)
    · refine r_ck_ok hA (.inl ⟨rfl, srows_good hg.s⟩) (by rw [List.length_map]; have := hg.sl; omega) (by decide) rep_none fun H1 s1 => ?_
      walk_at "rd"
      refine r_ck_ok (hC.same s1) (.inr ⟨rfl, mrows_good hg.m⟩) (by rw [List.length_map]; have := hg.ml; omega) (by decide) rep_none fun H2 s2 => ?_
      walk_at "rd"
      refine ⟨a, c, rs.map (·.w), ms.map (·.w), rfl, words_s (hA.same (s1.trans s2)), words_m (hC.same (s1.trans s2)), by rw [List.length_map, List.length_map]; have := hg.sl; have := hg.ml; omega, fun i' z' hi' hn' hm' d H' s3 e => ?_, fun hnd H3 s3 => ?_⟩
      · have e1 : (rs.map (·.w) ++ ms.map (·.w)).take (i' + 1) = (rs.map (·.w) ++ ms.map (·.w)).take i' ++ [z'] := by rw [List.take_add_one, hi']; rfl
        have h3 : ((rs.map (·.w) ++ ms.map (·.w)).take (i' + 1)).Nodup := hg.nd.sublist (List.take_sublist _ _)
        rw [e1, List.nodup_append] at h3
        exact absurd rfl (h3.2.2 z' hm' z' (List.mem_singleton.mpr rfl))
      · walk_at "rd"
        refine ⟨c, ms.map (·.c), rfl, counts_m (hC.same ((s1.trans s2).trans s3)), fun i' hi' h1' d H' s4 e => ?_, fun hle H4 s4' => ?_⟩
        · exact absurd (by rw [none_count]; exact hg.one) (none_all hi' h1')
        · have s4 : Same H H4 := ((s1.trans s2).trans s3).trans s4'
          have copy : ∀ (i : Nat) (y : Addr) (ds : List (List V)) (H5 : Hp) (Q' : VK), [some (V.ref x), some (.ref a), some (.ref c), none, none, none][i]? = some (some (.ref y)) → RowsIn H5 y ds → ds.length ≤ 100 →
              (∀ s xs H6, Same H5 H6 → H5 s = none → H6 s = some (.tup xs) → TupsAt H6 xs ds → Q' (.ref s) H6) →
              tCB (rTupS K) (tCons (tLc (iSeq K (tVar i)) (gName 3) tYes (tCB (rTupS K) (tCons (tVar 3) tNil)) (List.map (fun x => x.snd) [(Str.ofString "row", 3)])) tNil) [some (V.ref x), some (.ref a), some (.ref c), none, none, none] H5 Q' := by
            intro i y ds H5 Q' hi hR hdl kk
            obtain ⟨xs, hxs, hxl, hrow⟩ := hR
            walk_at "rd"
            refine ⟨_, hi, ?_⟩
            refine R.lc_seq hxs (fun D j H' => Same H5 H' ∧ ∃ acc, H' D = some (.lst acc) ∧ TupsAt H' acc (ds.take j)) (fun D hD => ⟨same_new (Same.refl _) hD, [], upd_same, .nil⟩) (fun D j H' _ hp => fun o h => hp.1 _ _ h) ?_ ?_
            · rintro D j v H' hD hj ⟨s5, acc, hacc, hts⟩
              have hjd : j < ds.length := by have := (List.getElem?_eq_some_iff.mp hj).1; omega
              have hdj : ds[j]? = some ds[j] := List.getElem?_eq_getElem hjd
              obtain ⟨b, hb, hbd⟩ := hrow j _ hdj
              rw [hb] at hj
              cases hj
              have hb5 := hbd.same s5
              have et : ds.take (j + 1) = ds.take j ++ [ds[j]] := by rw [List.take_add_one, hdj]; rfl
              have hal : acc.length < 1000 := by have := hts.len; rw [List.length_take] at this; omega
              refine R.gname ⟨rfl, ?_⟩
              walk_at "rd"
              refine R.tupA hb5 (fun l hl => ?_) (fun hbt => ?_)
              · have Dl : D ≠ l := ne_of_none hacc hl
                have hts2 : TupsAt (upd H' l (.tup ds[j])) acc (ds.take j) := hts.keep (keep_new hl)
                have hDl : upd H' l (.tup ds[j]) D = some (.lst acc) := by rw [upd_ne Dl]; exact hacc
                refine ⟨acc, hDl, small1000 (by omega), same_put (same_new s5 hl) hD, _, upd_same, ?_⟩
                rw [et]
                exact (hts2.keep (keep_list hDl)).snoc (keep_list hDl _ _ upd_same)
              · refine ⟨acc, hacc, small1000 (by omega), same_put s5 hD, _, upd_same, ?_⟩
                rw [et]
                exact (hts.keep (keep_list hacc)).snoc (keep_list hacc _ _ hbt)
            · rintro D H' hD ⟨s5, acc, hacc, hts⟩
              rw [hxl, List.take_of_length_le (Nat.le_refl _)] at hts
              walk_at "rd"
              refine R.tupL hacc fun l hl => ?_
              exact kk l acc _ (same_new s5 hl) (s5.free hl) upd_same (hts.keep (keep_new hl))
          walk_at "r1"
          walk_at "r1"
          dsimp only [List.map_nil]
          refine copy 1 a _ H4 _ rfl (hA.same s4) (by rw [List.length_map]; have := hg.sl; omega) fun s xs H5 s5 hs0 hs hts => ?_
          walk_at "rd"
          refine R.sfldE (s5 _ _ (s4 _ _ hx)) TS.cl TS.nS (by decide) ?_
          have hx5 := s5 _ _ (s4 _ _ hx)
          have sx : s ≠ x := ne_of hs hx5 (by intro z; cases z)
          have hx6 : upd H5 x (.ins S dx (putF "simple" (.ref s) [])) x = some (.ins S dx [("simple", .ref s)]) := upd_same
          have hs6 : upd H5 x (.ins S dx (putF "simple" (.ref s) [])) s = some (.tup xs) := by rw [upd_ne sx]; exact hs
          have hts6 : TupsAt (upd H5 x (.ins S dx (putF "simple" (.ref s) []))) xs (rs.map srV) := hts.keep (keep_ins hx5)
          have hC6 : RowsIn (upd H5 x (.ins S dx (putF "simple" (.ref s) []))) c (ms.map mrV) := (hC.same (s4.trans s5)).putI hx5
          have b6 : SameBut x H (upd H5 x (.ins S dx (putF "simple" (.ref s) []))) := (SameBut.of (s4.trans s5)).put
          generalize upd H5 x (.ins S dx (putF "simple" (.ref s) [])) = H6 at hx6 hs6 hts6 hC6 b6
          walk_at "r1"
          walk_at "r1"
          dsimp only [List.map_nil]
          refine copy 2 c _ H6 _ rfl hC6 (by rw [List.length_map]; have := hg.ml; omega) fun m ys H7 s7 hm0 hm hts7 => ?_
          have hx7 := s7 _ _ hx6
          have mx : m ≠ x := ne_of hm hx7 (by intro z; cases z)
          walk_at "rd"
          refine R.sfldE hx7 TS.cl TS.nM (by show 1 < 1000; decide) ?_
          rw [pf2]
          have hx8 : upd H7 x (.ins S dx [("simple", .ref s), ("multipliers", .ref m)]) x = some (.ins S dx [("simple", .ref s), ("multipliers", .ref m)]) := upd_same
          have hs8 : upd H7 x (.ins S dx [("simple", .ref s), ("multipliers", .ref m)]) s = some (.tup xs) := by rw [upd_ne sx]; exact s7 _ _ hs6
          have hm8 : upd H7 x (.ins S dx [("simple", .ref s), ("multipliers", .ref m)]) m = some (.tup ys) := by rw [upd_ne mx]; exact hm
          have ts8 : TupsAt (upd H7 x (.ins S dx [("simple", .ref s), ("multipliers", .ref m)])) xs (rs.map srV) := (hts6.keep fun a d h => s7 _ _ h).keep (keep_ins hx7)
          have tm8 : TupsAt (upd H7 x (.ins S dx [("simple", .ref s), ("multipliers", .ref m)])) ys (ms.map mrV) := hts7.keep (keep_ins hx7)
          have b8 : SameBut x H (upd H7 x (.ins S dx [("simple", .ref s), ("multipliers", .ref m)])) := (b6.trans (SameBut.of s7)).put
          generalize upd H7 x (.ins S dx [("simple", .ref s), ("multipliers", .ref m)]) = H8 at hx8 hs8 hm8 ts8 tm8 b8
          walk_at "rd"
          refine R.fldE hx8 TS.cl TS.nS rfl ?_
          walk_at "rd"
          intro D hD
          refine dc_tup (xs := xs) (fun i H' => Same H8 H' ∧ H' D = some (.dK ((rs.take i).map fun r => ((Sum.inr r.w : Key), V.int r.v)))) ⟨same_new (Same.refl _) hD, upd_same⟩ (fun i H' _ hp => SqT.of (hp.1 _ _ hs8)) ?_ ?_
          · rintro i v H' hi ⟨s9, hD9⟩
            have hxl : xs.length = rs.length := by have := ts8.len; rwa [List.length_map] at this
            have hir : i < rs.length := by have := (List.getElem?_eq_some_iff.mp hi).1; omega
            have hri : rs[i]? = some rs[i] := List.getElem?_eq_getElem hir
            obtain ⟨b, hb, hbt⟩ := ts8.get i (srV rs[i]) (by rw [List.getElem?_map, hri]; rfl)
            rw [hb] at hi
            cases hi
            have hb9 := s9 _ _ hbt
            refine R.gtup (xs := srV rs[i]) (SqT.of hb9) rfl ?_
            refine R.gcons ?_
            refine R.gname ?_
            refine R.gcons ?_
            refine R.gname ?_
            refine R.gnil ⟨rfl, ?_⟩
            walk_at "rd"
            have et : rs.take (i + 1) = rs.take i ++ [rs[i]] := by rw [List.take_add_one, hri]; rfl
            have nb : (Sum.inr rs[i].w : Key) ∉ (rs.take i).map fun r => (Sum.inr r.w : Key) := fun hm' => by
              obtain ⟨r', hr', er⟩ := List.mem_map.mp hm'
              have hnd2 : (rs.map (·.w)).Nodup := (List.nodup_append.mp hg.nd).1
              exact not_before hnd2 hri (List.mem_map.mpr ⟨r', hr', Sum.inr.inj er⟩)
            refine ⟨_, Sum.inr rs[i].w, rfl, hD9, small1000 (by rw [List.length_map, List.length_take]; have := hg.sl; omega), same_put s9 hD, ?_⟩
            rw [upd_same, et, put_next (fun r : SR => ((Sum.inr r.w : Key), V.int r.v)) (rs.take i) rs[i] nb]
          · rintro H9 ⟨s9, hD9⟩
            have hxl : xs.length = rs.length := by have := ts8.len; rwa [List.length_map] at this
            rw [hxl, List.take_of_length_le (Nat.le_refl _)] at hD9
            have hx9 := s9 _ _ hx8
            have Dx : D ≠ x := ne_of hD9 hx9 (by intro z; cases z)
            walk_at "rd"
            refine R.sfldE hx9 TS.cl TS.nV (by show 2 < 1000; decide) ?_
            rw [pf3]
            have hx10 : upd H9 x (.ins S dx [("simple", .ref s), ("multipliers", .ref m), ("_values", .ref D)]) x = some (.ins S dx [("simple", .ref s), ("multipliers", .ref m), ("_values", .ref D)]) := upd_same
            have hs10 : upd H9 x (.ins S dx [("simple", .ref s), ("multipliers", .ref m), ("_values", .ref D)]) s = some (.tup xs) := by rw [upd_ne sx]; exact s9 _ _ hs8
            have hm10 : upd H9 x (.ins S dx [("simple", .ref s), ("multipliers", .ref m), ("_values", .ref D)]) m = some (.tup ys) := by rw [upd_ne mx]; exact s9 _ _ hm8
            have hD10 : upd H9 x (.ins S dx [("simple", .ref s), ("multipliers", .ref m), ("_values", .ref D)]) D = some (.dK (rs.map fun r => ((Sum.inr r.w : Key), V.int r.v))) := by rw [upd_ne Dx]; exact hD9
            have ts10 : TupsAt (upd H9 x (.ins S dx [("simple", .ref s), ("multipliers", .ref m), ("_values", .ref D)])) xs (rs.map srV) := (ts8.keep fun a d h => s9 _ _ h).keep (keep_ins hx9)
            have tm10 : TupsAt (upd H9 x (.ins S dx [("simple", .ref s), ("multipliers", .ref m), ("_values", .ref D)])) ys (ms.map mrV) := (tm8.keep fun a d h => s9 _ _ h).keep (keep_ins hx9)
            have b10 : SameBut x H (upd H9 x (.ins S dx [("simple", .ref s), ("multipliers", .ref m), ("_values", .ref D)])) := (b8.trans (SameBut.of s9)).put
            generalize upd H9 x (.ins S dx [("simple", .ref s), ("multipliers", .ref m), ("_values", .ref D)]) = H10 at hx10 hs10 hm10 hD10 ts10 tm10 b10
            have hyl : ys.length = ms.length := by have := tm10.len; rwa [List.length_map] at this
            walk_at "rd"
            refine R.fldE hx10 TS.cl TS.nM rfl ?_
            walk_at "rd"
            intro D2 hD2
            refine dc_tup (xs := ys) (fun i H' => Same H10 H' ∧ H' D2 = some (.dK ((((ms.map (·.w)).zip ys).take i).map fun q => ((Sum.inr q.1 : Key), q.2)))) ⟨same_new (Same.refl _) hD2, upd_same⟩ (fun i H' _ hp => SqT.of (hp.1 _ _ hm10)) ?_ ?_
            · rintro i v H' hi ⟨s11, hD11⟩
              have hir : i < ms.length := by have := (List.getElem?_eq_some_iff.mp hi).1; omega
              have hri : ms[i]? = some ms[i] := List.getElem?_eq_getElem hir
              obtain ⟨b, hb, hbt⟩ := tm10.get i (mrV ms[i]) (by rw [List.getElem?_map, hri]; rfl)
              have hi0 := hi
              rw [hb] at hi
              cases hi
              have hb11 := s11 _ _ hbt
              have hz : ((ms.map (·.w)).zip ys)[i]? = some (ms[i].w, V.ref b) := List.getElem?_zip_eq_some.mpr ⟨by rw [List.getElem?_map, hri]; rfl, hi0⟩
              refine R.gname ⟨rfl, ?_⟩
              walk_at "rd"
              have et : ((ms.map (·.w)).zip ys).take (i + 1) = ((ms.map (·.w)).zip ys).take i ++ [(ms[i].w, V.ref b)] := by rw [List.take_add_one, hz]; rfl
              have hnd2 : (((ms.map (·.w)).zip ys).map Prod.fst).Nodup := by
                rw [List.map_fst_zip (by rw [List.length_map]; omega)]
                exact (List.nodup_append.mp hg.nd).2.1
              have nb : (Sum.inr ms[i].w : Key) ∉ (((ms.map (·.w)).zip ys).take i).map fun q => (Sum.inr q.1 : Key) := fun hm' => by
                obtain ⟨r', hr', er⟩ := List.mem_map.mp hm'
                exact not_before hnd2 hz (List.mem_map.mpr ⟨r', hr', Sum.inr.inj er⟩)
              refine ⟨_, Sum.inr ms[i].w, rfl, hD11, small1000 (by rw [List.length_map, List.length_take]; have := hg.ml; omega), same_put s11 hD2, ?_⟩
              rw [upd_same, et, put_next (fun q : Str × V => ((Sum.inr q.1 : Key), q.2)) _ (ms[i].w, V.ref b) nb]
            · rintro H11 ⟨s11, hD11⟩
              have hzl : ((ms.map (·.w)).zip ys).length = ys.length := by rw [List.length_zip, List.length_map]; omega
              rw [← hzl, List.take_of_length_le (Nat.le_refl _)] at hD11
              have hx11 := s11 _ _ hx10
              have D2x : D2 ≠ x := ne_of hD11 hx11 (by intro z; cases z)
              have DxD : D ≠ x := ne_of (s11 _ _ hD10) hx11 (by intro z; cases z)
              walk_at "rd"
              refine R.sfldE hx11 TS.cl TS.nR (by show 3 < 1000; decide) ?_
              rw [pf4]
              refine kQ _ (b10.trans (SameBut.of s11)).put ⟨dx, s, m, D, D2, xs, ys, upd_same, ?_, ?_, ?_, ?_, ?_, ?_⟩
              · rw [upd_ne sx]; exact s11 _ _ hs10
              · exact (ts10.keep fun a d h => s11 _ _ h).keep (keep_ins hx11)
              · rw [upd_ne mx]; exact s11 _ _ hm10
              · exact (tm10.keep fun a d h => s11 _ _ h).keep (keep_ins hx11)
              · rw [upd_ne DxD]; exact s11 _ _ hD10
              · rw [upd_ne D2x]; exact hD11
end
end KN
end
section
set_option Elab.async false
set_option linter.all false
set_option maxRecDepth 100000
set_option maxHeartbeats 4000000
set_option pp.maxSteps 1500
set_option pp.deepTerms false
local macro_rules | `(tactic| walk_at "ne") => `(tactic| first
  | assumption | (apply Ne.symm; assumption)
  | exact R.ne_new (by assumption) | exact (R.ne_new (by assumption)).symm
  | exact L2.ne_of_none (by assumption) (by assumption) | exact (L2.ne_of_none (by assumption) (by assumption)).symm
  | exact L2.ne_of_none (by assumption) (R.free_new (by assumption)) | exact (L2.ne_of_none (by assumption) (R.free_new (by assumption))).symm)
local macro_rules | `(tactic| walk_at "at") => `(tactic| first
  | assumption | exact L2.upd_same
  | (refine R.sb (H := ?H) (p := ?p) ?e ?n ?h; (case e => assumption); (case n => walk_at "ne"); (case h => walk_at "at"))
  | (refine R.sm (H := ?H) ?e ?h; (case e => assumption); (case h => walk_at "at"))
  | (refine Eq.trans (L2.upd_ne ?_) ?_ <;> first | walk_at "ne" | walk_at "at"))
local macro_rules | `(tactic| walk_at "sqt") => `(tactic| first | assumption | (refine L2.SqT.of ?_; walk_at "at"))
local macro_rules | `(tactic| walk_at "ty") => `(tactic| first | exact R.tyN | exact R.tyB | exact R.tyI | exact R.tyS | (refine R.tyT (xs := ?xs) ?h; case h => walk_at "at") | (refine R.tyL (xs := ?xs) ?h; case h => walk_at "at"))
local macro_rules | `(tactic| walk_at "kit") => `(tactic| first | exact R.kit_NoneType_tuple | exact R.kit_NoneType_list | exact R.kit_NoneType_bool | exact R.kit_NoneType_str | exact R.kit_NoneType_int | exact R.kit_bool_tuple | exact R.kit_bool_list | exact R.kit_bool_bool | exact R.kit_bool_str | exact R.kit_bool_int | exact R.kit_int_tuple | exact R.kit_int_list | exact R.kit_int_bool | exact R.kit_int_str | exact R.kit_int_int | exact R.kit_str_tuple | exact R.kit_str_list | exact R.kit_str_bool | exact R.kit_str_str | exact R.kit_str_int | exact R.kit_tuple_tuple | exact R.kit_tuple_list | exact R.kit_tuple_bool | exact R.kit_tuple_str | exact R.kit_tuple_int | exact R.kit_list_tuple | exact R.kit_list_list | exact R.kit_list_bool | exact R.kit_list_str | exact R.kit_list_int)
local macro_rules | `(tactic| walk_at "sz") => `(tactic| first | assumption | (refine Nat.le_trans ?_ (show 1000 ≤ PySem.sizeLine by decide); omega) | decide)
local macro_rules | `(tactic| walk_at "szl") => `(tactic| first | assumption | exact Nat.le_of_lt (L2.small1000 (by omega)) | decide | decide +kernel)
local macro_rules | `(tactic| walk_at "sys") => `(tactic| first | assumption | exact KN.SysAt.same (by assumption) (by assumption))
local macro_rules | `(tactic| walk_at "dk") => `(tactic| first | exact R.rowsS _ _ | exact R.rowsM _ _)
local macro_rules | `(tactic| walk_at "sqa") => `(tactic| first | assumption | exact R.SeqA.same (by assumption) (by assumption) | exact R.SeqA.new (by assumption) (by assumption) | (exact Or.inl (by walk_at "at")) | (exact Or.inr (by walk_at "at")))
local macro_rules | `(tactic| walk_at "ix") => `(tactic| first | rfl | (exact L2.atI_nat (by assumption)) | assumption)
local macro_rules | `(tactic| walk_at "cond") => `(tactic| first
  | exact Or.inl (by decide) | exact Or.inr (by decide) | exact Or.inl ⟨by omega, by omega⟩ | exact Or.inr ⟨by omega, by omega⟩
  | (constructor <;> omega) | (show _ ≠ _; omega) | decide | omega)
local macro_rules | `(tactic| walk_at "r1") => `(tactic| first
  | with_reducible refine R.seq ?_ | with_reducible refine R.asg ?_ | with_reducible refine R.ifs ?_ | with_reducible refine R.ret ?_ | with_reducible refine R.retN ?_ | with_reducible refine R.drop ?_ | with_reducible refine R.next ?_
  | with_reducible refine R.op ?_ | ((with_reducible refine R.var (v := ?v) ?h ?q); case h => rfl) | with_reducible refine R.c ?_ | with_reducible refine R.tst ?_ | with_reducible refine R.tb_ ?_ | with_reducible refine R.ex ?_
  | with_reducible refine R.i0 ?_ | with_reducible refine R.eqI ?_ | with_reducible refine R.neI ?_ | ((with_reducible refine R.ic ?_ ?_); · walk_at "cond") | with_reducible refine R.u0 ?_ | with_reducible refine R.un ?_
  | ((with_reducible refine R.eq ?_ ?_); · rfl) | ((with_reducible refine R.ne ?_ ?_); · rfl)
  | with_reducible refine R.and_ ?_ | with_reducible refine R.or_ ?_ | with_reducible refine R.not_ ?_ | with_reducible refine R.ife ?_ | with_reducible refine R.chain ?_
  | with_reducible refine R.cons ?_ | with_reducible refine R.nil ?_ | with_reducible refine R.call ?_ | with_reducible refine R.cb ?_ | with_reducible refine R.bm ?_
  | with_reducible refine R.gname ?_ | with_reducible refine R.gsub ?_ | with_reducible refine R.gnil ?_ | with_reducible refine R.gcons ?_ | with_reducible refine R.yes ?_
  | with_reducible refine R.int1 ?_ | ((with_reducible refine R.lenL (xs := ?xs) ?h ?q); case h => walk_at "at")
  | ((with_reducible refine R.ixL (xs := ?xs) (v := ?v) ?h ?e ?q); (case h => walk_at "at"); (case e => walk_at "ix"))
  | ((with_reducible refine R.setL (xs := ?xs) (n := ?n) ?h ?e ?q); (case h => walk_at "at"); (case e => rfl))
  | ((with_reducible refine R.append (xs := ?xs) ?h ?e ?q); (case h => walk_at "at"); (case e => walk_at "cond"))
  | with_reducible refine R.is_ ?_ | with_reducible refine R.isnot ?_ | with_reducible refine R.andV ?_ | with_reducible refine R.orV ?_ | with_reducible refine R.notV ?_
  | ((with_reducible refine R.isi (s := ?s) (b := ?b) ?ty ?h ?q); (case ty => walk_at "ty"); (case h => walk_at "kit"))
  | ((with_reducible refine R.addS ?h ?q); (case h => walk_at "sz")) | with_reducible refine R.max2 ?_ | with_reducible refine R.min2 ?_
  | ((with_reducible refine R.lenStr ?h ?q); (case h => walk_at "szl")) | ((with_reducible refine R.ixS (n := ?n) ?h ?e ?q); (case h => walk_at "szl"); (case e => walk_at "ix"))
  | ((with_reducible refine R.tyl (xs := ?xs) ?h ?q); (case h => walk_at "at")) | with_reducible refine R.itlist ?_ | with_reducible refine R.ittup ?_ | with_reducible refine R.m1 ?_ | with_reducible refine R.m1s ?_ | with_reducible refine R.leS ?_ | with_reducible refine R.itstr ?_ | with_reducible refine R.itstrE ?_ | with_reducible refine R.lc ?_ | with_reducible refine R.lc2 ?_ | with_reducible refine R.ckw ?_ | with_reducible refine R.par ?_ | with_reducible refine R.parE ?_ | with_reducible refine R.itrev ?_ | with_reducible refine R.dsetd ?_ | with_reducible refine R.dnotin_ ?_ | with_reducible refine R.for_ ?_ | ((with_reducible refine R.all_ (bs := ?bs) ?h ?q); (case h => walk_at "at"))
  | with_reducible refine R.rng1 ?_ | ((with_reducible refine R.rngE ?h ?q); (case h => (constructor <;> omega)))
  | ((with_reducible refine R.lenT (xs := ?xs) ?h ?q); (case h => walk_at "sqt")) | ((with_reducible refine R.ixT (xs := ?xs) (v := ?v) ?h ?e ?q); (case h => walk_at "sqt"); (case e => walk_at "ix"))
  | ((refine R.itlE (xs := ?xs) ?h ?q); (case h => walk_at "at")) | ((refine R.ittE (xs := ?xs) ?h ?q); (case h => walk_at "at"))
  | ((refine R.gseq (xs := ?xs) ?h ?e ?q); (case h => walk_at "sqa"); (case e => rfl)) | ((refine R.ixA (xs := ?xs) (v := ?v) ?h ?e ?q); (case h => walk_at "sqa"); (case e => walk_at "ix")) | ((refine R.lenA (xs := ?xs) ?h ?q); (case h => walk_at "sqa"))
  | ((with_reducible refine R.gtup (xs := ?xs) ?h ?e ?q); (case h => walk_at "sqt"); (case e => rfl))
  | with_reducible refine R.din_ ?_ | with_reducible refine R.dput_ ?_
  | with_reducible refine R.dget2_ ?_ | ((with_reducible refine R.aug_ (x := ?x) ?h ?q); case h => rfl) | with_reducible refine R.ipI_ ?_
  | with_reducible refine R.rng2 ?_ | ((with_reducible refine R.rngE2 ?h ?q); (case h => (refine ⟨?_, ?_, ?_, ?_⟩ <;> omega)))
  | with_reducible refine R.brk ?_ | with_reducible refine R.intB ?_ | with_reducible refine R.meth_ ?_ | ((refine KN.methS (rs := ?rs) (ms := ?ms) ?h (fun _ _ _ _ => rfl) ?q); case h => walk_at "sys")
  | with_reducible refine R.sl_ ?_ | with_reducible refine R.np_ ?_ | with_reducible refine R.pt_ ?_ | with_reducible refine R.ptE ?_ | with_reducible refine R.dget_ ?_ | with_reducible refine R.revL_ ?_
  | ((refine R.dgetS (kvs := ?kvs) (v := ?v) ?h ?e ?q); (case h => walk_at "at"); (case e => walk_at "dk"))
  | with_reducible refine R.sfld ?_ | with_reducible refine R.fld_ ?_ | with_reducible refine R.dc ?_
  | with_reducible refine R.dget1_ ?_
  | with_reducible refine R.itseq ?_ | with_reducible refine R.itenum ?_
  | with_reducible refine R.itT ?_ | with_reducible refine R.itF ?_ | with_reducible refine R.itNT ?_ | with_reducible refine R.itNF ?_
  | (with_reducible refine R.tup ?_) | (with_reducible refine R.lst ?_))
local macro_rules | `(tactic| walk_at "rd") => `(tactic| (repeat (first | walk_at "r1" | (dsimp only [Int.reduceToNat, List.set_cons_succ, List.set_cons_zero, List.length_cons, List.length_nil, List.nil_append, List.cons_append, List.append_nil]))))
local macro_rules | `(tactic| walk_at "go") => `(tactic| (rw [R.start_eq]; dsimp only [R.startE, List.map_nil]; walk_at "rd"))
namespace KN
open PySem L2 SX R
open C8 (Cal Def cal0 pe_c pe_gc fnScope fnBody Met met0)
section
variable {P : Program} {w : World} {K : PySem.W.Frag} {mg : Str → Option Value} {base : Heap}
abbrev sSysW : Stmt := inClass (top 21) 1
theorem scSysW : FnScope ["self", "row"] ["self"] (fnScope sSysW) := ⟨rfl, rfl, rfl, by decide +kernel, rfl, by decide +kernel, by decide +kernel⟩
abbrev sSysM : Stmt := inClass (top 21) 3
theorem scSysM : FnScope ["self", "word"] ["self", "word"] (fnScope sSysM) := ⟨rfl, rfl, rfl, by decide +kernel, rfl, by decide +kernel, by decide +kernel⟩
abbrev sSysE : Stmt := inClass (top 21) 4
theorem scSysE : FnScope ["self", "row"] ["self"] (fnScope sSysE) := ⟨rfl, rfl, rfl, by decide +kernel, rfl, by decide +kernel, by decide +kernel⟩
abbrev sSysB : Stmt := inClass (top 21) 5
theorem scSysB : FnScope ["self", "greatest", "_", "value", "count", "rest"] ["self"] (fnScope sSysB) := ⟨rfl, rfl, rfl, by decide +kernel, rfl, by decide +kernel, by decide +kernel⟩
def spWords (S : Addr) : Sp := fun vs H Q _ => ∃ (x : Addr) (rs : List SR) (ms : List MR), vs = [.ref x] ∧ SysAt S H x rs ms ∧ rs.length + ms.length ≤ 100 ∧ ∀ t H', Same H H' → H' t = some (.tup ((rs.map (·.w) ++ ms.map (·.w)).map V.str)) → Q (.ref t) H'
theorem m_words (Z : Zs mg) {S : Addr} (TS : SysK K S) {f : Addr} {fd : FuncData} (me : Meth K S "words" f) (F : C8.Fun K "words" "System.words" sSysW f fd) (b : Binds K fd ["self"] []) : Met P w K mg base 1 S "words" (spWords S) [] := by
  refine met0 TS.cl me F b scSysW (fun vs H Q E h => ?_) (fun cdv A outer s H vs Q E hr h => ?_)
  · obtain ⟨x, rs, ms, rfl, _⟩ := h
    rfl
  · obtain ⟨x, rs, ms, rfl, ⟨dx, s, m, v, r, xs, ys, hx, hs, hts, hm, htm, hv, hrr⟩, hl, k⟩ := h
    refine ⟨_, pss_one (ps_ret (pe_callTy (kTuple K) (by rfl) Z.tuple (by decide +kernel) (pa_cons (pe_lc (own := [("row", 1)]) (g := gName 1) (tt := tYes) rfl scSysW.nd (kiT K (pe_op (kCatT K) (kFld K (pv 0)) (kFld K (pv 0)))) (blkOk_by (own := [("row", 1)]) (N := ["self", "row"]) (sc := fnScope sSysW) (by decide +kernel)) (fun _ _ _ _ _ => (pg_name (i := 1) scSysW.nd rfl (Or.inl rfl))) (fun _ _ _ _ _ => pts_nil) (fun _ _ _ _ _ => pe_ix (kIxT K) (pv 1) pe_int (fun _ _ => rfl))) pa_nil))), ?_⟩
    have lx : xs.length = rs.length := by have := hts.len; rwa [List.length_map] at this
    have ly : ys.length = ms.length := by have := htm.len; rwa [List.length_map] at this
    walk_at "go"
    refine R.fldE hx TS.cl TS.nS rfl ?_
    walk_at "rd"
    refine R.fldE hx TS.cl TS.nM rfl ?_
    refine R.catA (SqT.of hs) (SqT.of hm) (Nat.le_of_lt (small1000 (by omega))) fun p H1 s1 hp => ?_
    have items : ∀ i, i < rs.length + ms.length → ∃ b z d, (xs ++ ys)[i]? = some (.ref b) ∧ H b = some (.tup (.str z :: d)) ∧ (rs.map (·.w) ++ ms.map (·.w))[i]? = some z := by
      intro i hi
      by_cases h : i < rs.length
      · have hri : rs[i]? = some rs[i] := List.getElem?_eq_getElem h
        obtain ⟨b, hb, hbt⟩ := hts.get i (srV rs[i]) (by rw [List.getElem?_map, hri]; rfl)
        exact ⟨b, rs[i].w, _, by rw [List.getElem?_append_left (by omega)]; exact hb, hbt, by rw [List.getElem?_append_left (by rw [List.length_map]; exact h), List.getElem?_map, hri]; rfl⟩
      · have hi2 : i - rs.length < ms.length := by omega
        have hri : ms[i - rs.length]? = some ms[i - rs.length] := List.getElem?_eq_getElem hi2
        obtain ⟨b, hb, hbt⟩ := htm.get (i - rs.length) (mrV ms[i - rs.length]) (by rw [List.getElem?_map, hri]; rfl)
        exact ⟨b, ms[i - rs.length].w, _, by rw [List.getElem?_append_right (by omega), lx]; exact hb, hbt, by rw [List.getElem?_append_right (by rw [List.length_map]; omega), List.length_map, List.getElem?_map, hri]; rfl⟩
    refine ⟨p, rfl, ⟨_, hp⟩, fun D hD => ?_⟩
    have hall : (xs ++ ys).length = rs.length + ms.length := by rw [List.length_append]; omega
    refine lc_it (walk_tup (K := K) (a := p) (xs := xs ++ ys)) (fun i H' => Same H1 H' ∧ H' D = some (.lst (((rs.map (·.w) ++ ms.map (·.w)).take i).map V.str))) ⟨same_new (Same.refl _) hD, upd_same⟩ (fun i H' _ hp' => ?_) ?_ ?_
    · rcases hp with (h | ⟨o, h⟩) | h
      · exact .inl (.inl (hp'.1 _ _ h))
      · exact .inl (.inr ⟨o, hp'.1 _ _ h⟩)
      · exact .inr h
    · rintro i u H2 H2' hi ⟨s2, hD2⟩ ⟨rfl, hu⟩
      obtain ⟨b, z, d, hb, hbt, hz⟩ := items i (by omega)
      rw [hb] at hu
      cases hu
      have hb2 := s2 _ _ (s1 _ _ hbt)
      refine R.gname ⟨rfl, ?_⟩
      walk_at "rd"
      refine R.ixT (SqT.of hb2) (atI_nat (j := 0) rfl) ?_
      refine ⟨_, hD2, small1000 (by rw [List.length_map, List.length_take, List.length_append, List.length_map, List.length_map]; omega), same_put s2 hD, ?_⟩
      rw [upd_same, List.take_add_one, hz, List.map_append]
      rfl
    · rintro H2 ⟨s2, hD2⟩
      rw [hall, List.take_of_length_le (by rw [List.length_append, List.length_map, List.length_map]; exact Nat.le_refl _)] at hD2
      walk_at "rd"
      refine R.tupL hD2 fun l hl => ?_
      exact k l _ (same_new (s1.trans s2) hl) upd_same
theorem valV_at {κ : Type} [DecidableEq κ] : ∀ {l : List (κ × V)} {k : κ} {v : V}, (l.map (·.1)).Nodup → (k, v) ∈ l → valV l k = some v
  | [], _, _, _, h => by cases h
  | p :: l, k, v, hn, h => by
    obtain ⟨h1, h2⟩ := List.nodup_cons.mp hn
    rcases List.mem_cons.mp h with q | q
    · subst q; exact valV_pos rfl
    · have : ¬ p.1 = k := fun e => h1 (List.mem_map.mpr ⟨(k, v), q, e.symm⟩)
      rw [valV_neg this]
      exact valV_at h2 q
theorem valV_off {κ : Type} [DecidableEq κ] {l : List (κ × V)} {k : κ} (h : k ∉ l.map (·.1)) : valV l k = none := by
  cases q : valV l k with
  | none => rfl
  | some v => exact absurd (valV_in q) h
def spMl (S : Addr) : Sp := fun vs H Q _ => ∃ (x : Addr) (z : Str) (rs : List SR) (ms : List MR), vs = [.ref x, .str z] ∧ SysAt S H x rs ms ∧ ms.length ≤ 100 ∧
  ((∃ m : MR, m ∈ ms ∧ m.w = z ∧ (ms.map (·.w)).Nodup ∧ ∀ b, H b = some (.tup (mrV m)) → Q (.ref b) H) ∨ (z ∉ ms.map (·.w) ∧ Q .non H))
theorem m_multiplier {S : Addr} (TS : SysK K S) {f : Addr} {fd : FuncData} (me : Meth K S "multiplier" f) (F : C8.Fun K "multiplier" "System.multiplier" sSysM f fd) (b : Binds K fd ["self", "word"] []) : Met P w K mg base 1 S "multiplier" (spMl S) [] := by
  refine met0 TS.cl me F b scSysM (fun vs H Q E h => ?_) (fun cdv A outer s H vs Q E hr h => ?_)
  · obtain ⟨x, z, rs, ms, rfl, _⟩ := h
    rfl
  · obtain ⟨x, z, rs, ms, rfl, ⟨dx, s, m, v, r, xs, ys, hx, hs, hts, hm, htm, hv, hrr⟩, hl, k⟩ := h
    refine ⟨_, pss_one (ps_ret (pe_dget1 (hu_of hr) (kFld K (pv 0)) (pv 1) ⟨by rfl, by rfl, by rfl, by rfl⟩)), ?_⟩
    have ly : ys.length = ms.length := by have := htm.len; rwa [List.length_map] at this
    walk_at "go"
    refine R.fldE hx TS.cl TS.nR rfl ?_
    refine R.dgetE hrr ?_
    walk_at "rd"
    refine R.dgetO hrr ?_
    have keys : (((ms.map (·.w)).zip ys).map fun q => ((Sum.inr q.1 : Key), q.2)).map (·.1) = (ms.map (·.w)).map fun z => (Sum.inr z : Key) := by
      rw [List.map_map]
      conv => rhs; rw [← List.map_fst_zip (l₁ := ms.map (·.w)) (l₂ := ys) (by rw [List.length_map]; omega)]
      rw [List.map_map]
      rfl
    rcases k with ⟨mm, hmm, rfl, hnd, kk⟩ | ⟨hz, kk⟩
    · obtain ⟨i, hi, hie⟩ := List.mem_iff_getElem.mp hmm
      have hri : ms[i]? = some mm := by rw [List.getElem?_eq_getElem hi, hie]
      obtain ⟨b, hb, hbt⟩ := htm.get i (mrV mm) (by rw [List.getElem?_map, hri]; rfl)
      have hz : ((ms.map (·.w)).zip ys)[i]? = some (mm.w, V.ref b) := List.getElem?_zip_eq_some.mpr ⟨by rw [List.getElem?_map, hri]; rfl, hb⟩
      have e : valV (((ms.map (·.w)).zip ys).map fun q => ((Sum.inr q.1 : Key), q.2)) (Sum.inr mm.w) = some (.ref b) := by
        refine valV_at ?_ (List.mem_map.mpr ⟨_, List.mem_of_getElem? hz, rfl⟩)
        rw [keys]
        rw [List.nodup_iff_pairwise_ne, List.pairwise_map]
        exact List.Pairwise.imp (fun h e => h (Sum.inr.inj e)) (List.nodup_iff_pairwise_ne.mp hnd)
      rw [e]
      exact kk b hbt
    · have e : valV (((ms.map (·.w)).zip ys).map fun q => ((Sum.inr q.1 : Key), q.2)) (Sum.inr z) = none := by
        refine valV_off ?_
        rw [keys]
        intro hm'
        obtain ⟨y, hy, ey⟩ := List.mem_map.mp hm'
        rw [Sum.inr.inj ey] at hy
        exact hz hy
      rw [e]
      exact kk
def spEl (S : Addr) : Sp := fun vs H Q _ => ∃ (x : Addr) (rs : List SR) (ms : List MR), vs = [.ref x] ∧ SysAt S H x rs ms ∧
  ((∃ (i : Nat) (m : MR), ms[i]? = some m ∧ m.c = none ∧ (∀ j m', j < i → ms[j]? = some m' → m'.c ≠ none) ∧ ∀ b, H b = some (.tup (mrV m)) → Q (.ref b) H) ∨ ((∀ m ∈ ms, m.c ≠ none) ∧ Q .non H))
theorem m_endless {S : Addr} (TS : SysK K S) {f : Addr} {fd : FuncData} (me : Meth K S "endless" f) (F : C8.Fun K "endless" "System.endless" sSysE f fd) (b : Binds K fd ["self"] []) : Met P w K mg base 1 S "endless" (spEl S) [] := by
  refine met0 TS.cl me F b scSysE (fun vs H Q E h => ?_) (fun cdv A outer s H vs Q E hr h => ?_)
  · obtain ⟨x, rs, ms, rfl, _⟩ := h
    rfl
  · obtain ⟨x, rs, ms, rfl, ⟨dx, s, m, v, r, xs, ys, hx, hs, hts, hm, htm, hv, hrr⟩, k⟩ := h
    refine ⟨_, pss_cons (ps_for PassesOwn.never rfl (kiT K (kFld K (pv 0))) (pg_name (i := 1) scSysE.nd rfl (Or.inl rfl))
        (pss_one (ps_if (pt_cmpR oIs (pe_ix (kIxT K) (pv 1) pe_int (fun _ _ => rfl)) pe_non (nomark _))
        (pss_one (ps_ret (pv 1)))
        (pss_nil))))
      (pss_one (ps_ret pe_non)), ?_⟩
    have ly : ys.length = ms.length := by have := htm.len; rwa [List.length_map] at this
    walk_at "go"
    refine R.fldE hx TS.cl TS.nM rfl ?_
    walk_at "rd"
    refine for_it (walk_tup (K := K) (a := m) (xs := ys)) (fun i σ' H' => ∃ q, σ' = [some (.ref x), q] ∧ H' = H ∧ ∀ j m', j < i → ms[j]? = some m' → m'.c ≠ none) ⟨none, rfl, rfl, fun j m' h => absurd h (Nat.not_lt_zero _)⟩ (fun i σ' H' _ hp => by obtain ⟨_, _, rfl, _⟩ := hp; exact SqT.of hm) ?_ ?_
    · rintro i u σ' H2 H2' hi ⟨q, rfl, rfl, hno⟩ ⟨rfl, hu⟩
      have hri : ms[i]? = some ms[i] := List.getElem?_eq_getElem (by omega)
      obtain ⟨b, hb, hbt⟩ := htm.get i (mrV ms[i]) (by rw [List.getElem?_map, hri]; rfl)
      rw [hb] at hu
      cases hu
      walk_at "rd"
      refine it (fun h1 => ?_) (fun h1 => ?_)
      · have hn : ms[i].c = none := by
          cases z : ms[i].c with
          | none => rfl
          | some n => rw [z] at h1; exact absurd h1 (fun y => nomatch (show V.int n = V.non from y))
        walk_at "rd"
        rcases k with ⟨i', m', hi', hc', hfirst, kk⟩ | ⟨hall, _⟩
        · have ei : i' = i := by
            rcases Nat.lt_trichotomy i' i with y | y | y
            · exact absurd hc' (hno i' m' y hi')
            · exact y
            · exact absurd hn (hfirst i _ y hri)
          subst ei
          rw [hri] at hi'
          cases hi'
          exact kk b hbt
        · exact absurd hn (hall _ (List.mem_of_getElem? hri))
      · walk_at "rd"
        refine ⟨_, rfl, rfl, fun j m' hj hm' => ?_⟩
        by_cases e : j = i
        · subst e
          rw [hri] at hm'
          cases hm'
          intro hc
          rw [hc] at h1
          exact h1 rfl
        · exact hno j m' (by omega) hm'
    · rintro σ' H2 ⟨q, rfl, rfl, hno⟩
      walk_at "rd"
      rcases k with ⟨i', m', hi', hc', _, _⟩ | ⟨_, kk⟩
      · exact absurd hc' (hno i' m' (by have := (List.getElem?_eq_some_iff.mp hi').1; omega) hi')
      · exact kk
def mx (i j : Int) : Int := if j > i then j else i
def bms : Int → List SR → Int
  | g, [] => g
  | g, r :: rs => bms (mx g r.v) rs
def bmm : Int → List MR → Int
  | g, [] => g
  | g, m :: ms => bmm (match m.c with | none => g | some c => mx g (c * m.v + m.r)) ms
theorem bms_snoc : ∀ (rs : List SR) (g : Int) (r : SR), bms g (rs ++ [r]) = mx (bms g rs) r.v
  | [], g, r => rfl
  | a :: rs, g, r => bms_snoc rs _ r
theorem bmm_snoc : ∀ (ms : List MR) (g : Int) (m : MR), bmm g (ms ++ [m]) = (match m.c with | none => bmm g ms | some c => mx (bmm g ms) (c * m.v + m.r))
  | [], g, r => rfl
  | a :: ms, g, r => bmm_snoc ms _ r
def spBm (S : Addr) : Sp := fun vs H Q _ => ∃ (x : Addr) (rs : List SR) (ms : List MR), vs = [.ref x] ∧ SysAt S H x rs ms ∧ (∀ m ∈ ms, 2 ≤ m.v ∧ m.v ≤ 100000) ∧ Q (.int (bmm (bms 0 rs) ms)) H
theorem m_bounded_maximum (Z : Zs mg) {S : Addr} (TS : SysK K S) {f : Addr} {fd : FuncData} (me : Meth K S "bounded_maximum" f) (F : C8.Fun K "bounded_maximum" "System.bounded_maximum" sSysB f fd) (b : Binds K fd ["self"] []) : Met P w K mg base 1 S "bounded_maximum" (spBm S) [] := by
  refine met0 TS.cl me F b scSysB (fun vs H Q E h => ?_) (fun cdv A outer s H vs Q E hr h => ?_)
  · obtain ⟨x, rs, ms, rfl, _⟩ := h
    rfl
  · obtain ⟨x, rs, ms, rfl, ⟨dx, s, m, v, r, xs, ys, hx, hs, hts, hm, htm, hv, hrr⟩, hb, k⟩ := h
    refine ⟨_, pss_cons (ps_set (i := 1) scSysB.nd rfl (Or.inl rfl) pe_int)
      (pss_cons (ps_for PassesOwn.never rfl (kiT K (kFld K (pv 0))) (kgTup K (n := 2) rfl (pgs_cons (pg_name (i := 2) scSysB.nd rfl (Or.inl rfl)) (pgs_cons (pg_name (i := 3) scSysB.nd rfl (Or.inl rfl)) pgs_nil)))
        (pss_one (ps_set (i := 1) scSysB.nd rfl (Or.inl rfl) (pe_callB kMax2 (by rfl) Z.max (by decide +kernel) (pa_cons (pv 1) (pa_cons (pv 3) pa_nil))))))
      (pss_cons (ps_for PassesOwn.never rfl (kiT K (kFld K (pv 0))) (kgTup K (n := 5) rfl (pgs_cons (pg_name (i := 2) scSysB.nd rfl (Or.inl rfl)) (pgs_cons (pg_name (i := 3) scSysB.nd rfl (Or.inl rfl)) (pgs_cons (pg_name (i := 4) scSysB.nd rfl (Or.inl rfl)) (pgs_cons (pg_name (i := 2) scSysB.nd rfl (Or.inl rfl)) (pgs_cons (pg_name (i := 5) scSysB.nd rfl (Or.inl rfl)) pgs_nil))))))
        (pss_one (ps_if (pt_cmpR oIsNot (pv 4) pe_non (nomark _))
        (pss_one (ps_set (i := 1) scSysB.nd rfl (Or.inl rfl) (pe_callB kMax2 (by rfl) Z.max (by decide +kernel) (pa_cons (pv 1) (pa_cons (pe_op op_add (pe_op op_mul (pv 4) (pv 3)) (pv 5)) pa_nil)))))
        (pss_nil))))
      (pss_one (ps_ret (pv 1))))), ?_⟩
    have lx : xs.length = rs.length := by have := hts.len; rwa [List.length_map] at this
    have ly : ys.length = ms.length := by have := htm.len; rwa [List.length_map] at this
    walk_at "go"
    refine R.fldE hx TS.cl TS.nS rfl ?_
    walk_at "rd"
    refine for_it (walk_tup (K := K) (a := s) (xs := xs)) (fun i σ' H' => ∃ q2 q3, σ' = [some (.ref x), some (.int (bms 0 (rs.take i))), q2, q3, none, none] ∧ H' = H) ⟨none, none, rfl, rfl⟩ (fun i σ' H' _ hp => by obtain ⟨_, _, _, rfl⟩ := hp; exact SqT.of hs) ?_ ?_
    · rintro i u σ' H2 H2' hi ⟨q2, q3, rfl, rfl⟩ ⟨rfl, hu⟩
      have hri : rs[i]? = some rs[i] := List.getElem?_eq_getElem (by omega)
      obtain ⟨b, hb, hbt⟩ := hts.get i (srV rs[i]) (by rw [List.getElem?_map, hri]; rfl)
      rw [hb] at hu
      cases hu
      refine R.gtup (xs := srV rs[i]) (SqT.of hbt) rfl ?_
      refine R.gcons ?_
      refine R.gname ?_
      refine R.gcons ?_
      refine R.gname ?_
      refine R.gnil ?_
      walk_at "rd"
      have er : bms 0 (rs.take (i + 1)) = mx (bms 0 (rs.take i)) rs[i].v := by
        rw [List.take_add_one, hri]
        exact bms_snoc _ _ _
      rw [er]
      exact ⟨_, _, rfl, rfl⟩
    · rintro σ' H2 ⟨q2, q3, rfl, rfl⟩
      rw [lx, List.take_of_length_le (Nat.le_refl _)]
      walk_at "rd"
      refine R.fldE hx TS.cl TS.nM rfl ?_
      walk_at "rd"
      refine for_it (walk_tup (K := K) (a := m) (xs := ys)) (fun i σ' H' => ∃ q2 q3 q4 q5, σ' = [some (.ref x), some (.int (bmm (bms 0 rs) (ms.take i))), q2, q3, q4, q5] ∧ H' = H2) ⟨q2, q3, none, none, rfl, rfl⟩ (fun i σ' H' _ hp => by obtain ⟨_, _, _, _, _, rfl⟩ := hp; exact SqT.of hm) ?_ ?_
      · rintro i u σ' H3 H3' hi ⟨q2, q3, q4, q5, rfl, rfl⟩ ⟨rfl, hu⟩
        have hri : ms[i]? = some ms[i] := List.getElem?_eq_getElem (by omega)
        obtain ⟨b, hb', hbt⟩ := htm.get i (mrV ms[i]) (by rw [List.getElem?_map, hri]; rfl)
        rw [hb'] at hu
        cases hu
        have hbd := hb _ (List.mem_of_getElem? hri)
        have et : bmm (bms 0 rs) (ms.take (i + 1)) = (match ms[i].c with | none => bmm (bms 0 rs) (ms.take i) | some c => mx (bmm (bms 0 rs) (ms.take i)) (c * ms[i].v + ms[i].r)) := by
          rw [List.take_add_one, hri]
          exact bmm_snoc _ _ _
        refine R.gtup (xs := mrV ms[i]) (SqT.of hbt) rfl ?_
        refine R.gcons ?_
        refine R.gname ?_
        refine R.gcons ?_
        refine R.gname ?_
        refine R.gcons ?_
        refine R.gname ?_
        refine R.gcons ?_
        refine R.gname ?_
        refine R.gcons ?_
        refine R.gname ?_
        refine R.gnil ?_
        walk_at "rd"
        cases hc : ms[i].c with
        | none =>
          rw [hc] at et
          refine itn (fun z => absurd rfl z) (fun _ => ?_)
          walk_at "rd"
          rw [et]
          exact ⟨_, _, _, _, rfl, rfl⟩
        | some n =>
          rw [hc] at et
          refine itn (fun _ => ?_) (fun z => nomatch (show V.int n = V.non from z))
          rw [show ocnt (some n) = V.int n from rfl]
          walk_at "rd"
          rw [et]
          exact ⟨_, _, _, _, rfl, rfl⟩
      · rintro σ' H3 ⟨q2, q3, q4, q5, rfl, rfl⟩
        rw [ly, List.take_of_length_le (Nat.le_refl _)]
        walk_at "rd"
        exact k
end
end KN
end
section
set_option Elab.async false
set_option linter.all false
set_option maxRecDepth 100000
set_option maxHeartbeats 4000000
set_option pp.maxSteps 1500
set_option pp.deepTerms false
local macro_rules | `(tactic| walk_at "ne") => `(tactic| first
  | assumption | (apply Ne.symm; assumption)
  | exact R.ne_new (by assumption) | exact (R.ne_new (by assumption)).symm
  | exact L2.ne_of_none (by assumption) (by assumption) | exact (L2.ne_of_none (by assumption) (by assumption)).symm
  | exact L2.ne_of_none (by assumption) (R.free_new (by assumption)) | exact (L2.ne_of_none (by assumption) (R.free_new (by assumption))).symm)
local macro_rules | `(tactic| walk_at "at") => `(tactic| first
  | assumption | exact L2.upd_same
  | (refine R.sb (H := ?H) (p := ?p) ?e ?n ?h; (case e => assumption); (case n => walk_at "ne"); (case h => walk_at "at"))
  | (refine R.sm (H := ?H) ?e ?h; (case e => assumption); (case h => walk_at "at"))
  | (refine Eq.trans (L2.upd_ne ?_) ?_ <;> first | walk_at "ne" | walk_at "at"))
local macro_rules | `(tactic| walk_at "sqt") => `(tactic| first | assumption | (refine L2.SqT.of ?_; walk_at "at"))
local macro_rules | `(tactic| walk_at "ty") => `(tactic| first | exact R.tyN | exact R.tyB | exact R.tyI | exact R.tyS | (refine R.tyT (xs := ?xs) ?h; case h => walk_at "at") | (refine R.tyL (xs := ?xs) ?h; case h => walk_at "at"))
local macro_rules | `(tactic| walk_at "kit") => `(tactic| first | exact R.kit_NoneType_tuple | exact R.kit_NoneType_list | exact R.kit_NoneType_bool | exact R.kit_NoneType_str | exact R.kit_NoneType_int | exact R.kit_bool_tuple | exact R.kit_bool_list | exact R.kit_bool_bool | exact R.kit_bool_str | exact R.kit_bool_int | exact R.kit_int_tuple | exact R.kit_int_list | exact R.kit_int_bool | exact R.kit_int_str | exact R.kit_int_int | exact R.kit_str_tuple | exact R.kit_str_list | exact R.kit_str_bool | exact R.kit_str_str | exact R.kit_str_int | exact R.kit_tuple_tuple | exact R.kit_tuple_list | exact R.kit_tuple_bool | exact R.kit_tuple_str | exact R.kit_tuple_int | exact R.kit_list_tuple | exact R.kit_list_list | exact R.kit_list_bool | exact R.kit_list_str | exact R.kit_list_int)
local macro_rules | `(tactic| walk_at "sz") => `(tactic| first | assumption | (refine Nat.le_trans ?_ (show 1000 ≤ PySem.sizeLine by decide); omega) | decide)
local macro_rules | `(tactic| walk_at "szl") => `(tactic| first | assumption | exact Nat.le_of_lt (L2.small1000 (by omega)) | decide | decide +kernel)
local macro_rules | `(tactic| walk_at "sys") => `(tactic| first | assumption | exact KN.SysAt.same (by assumption) (by assumption))
local macro_rules | `(tactic| walk_at "dk") => `(tactic| first | exact R.rowsS _ _ | exact R.rowsM _ _)
local macro_rules | `(tactic| walk_at "sqa") => `(tactic| first | assumption | exact R.SeqA.same (by assumption) (by assumption) | exact R.SeqA.new (by assumption) (by assumption) | (exact Or.inl (by walk_at "at")) | (exact Or.inr (by walk_at "at")))
local macro_rules | `(tactic| walk_at "ix") => `(tactic| first | rfl | (exact L2.atI_nat (by assumption)) | assumption)
local macro_rules | `(tactic| walk_at "cond") => `(tactic| first
  | exact Or.inl (by decide) | exact Or.inr (by decide) | exact Or.inl ⟨by omega, by omega⟩ | exact Or.inr ⟨by omega, by omega⟩
  | (constructor <;> omega) | (show _ ≠ _; omega) | decide | omega)
local macro_rules | `(tactic| walk_at "r1") => `(tactic| first
  | with_reducible refine R.seq ?_ | with_reducible refine R.asg ?_ | with_reducible refine R.ifs ?_ | with_reducible refine R.ret ?_ | with_reducible refine R.retN ?_ | with_reducible refine R.drop ?_ | with_reducible refine R.next ?_
  | with_reducible refine R.op ?_ | ((with_reducible refine R.var (v := ?v) ?h ?q); case h => rfl) | with_reducible refine R.c ?_ | with_reducible refine R.tst ?_ | with_reducible refine R.tb_ ?_ | with_reducible refine R.ex ?_
  | with_reducible refine R.i0 ?_ | with_reducible refine R.eqI ?_ | with_reducible refine R.neI ?_ | ((with_reducible refine R.ic ?_ ?_); · walk_at "cond") | with_reducible refine R.u0 ?_ | with_reducible refine R.un ?_
  | ((with_reducible refine R.eq ?_ ?_); · rfl) | ((with_reducible refine R.ne ?_ ?_); · rfl)
  | with_reducible refine R.and_ ?_ | with_reducible refine R.or_ ?_ | with_reducible refine R.not_ ?_ | with_reducible refine R.ife ?_ | with_reducible refine R.chain ?_
  | with_reducible refine R.cons ?_ | with_reducible refine R.nil ?_ | with_reducible refine R.call ?_ | with_reducible refine R.cb ?_ | with_reducible refine R.bm ?_
  | with_reducible refine R.gname ?_ | with_reducible refine R.gsub ?_ | with_reducible refine R.gnil ?_ | with_reducible refine R.gcons ?_ | with_reducible refine R.yes ?_
  | with_reducible refine R.int1 ?_ | ((with_reducible refine R.lenL (xs := ?xs) ?h ?q); case h => walk_at "at")
  | ((with_reducible refine R.ixL (xs := ?xs) (v := ?v) ?h ?e ?q); (case h => walk_at "at"); (case e => walk_at "ix"))
  | ((with_reducible refine R.setL (xs := ?xs) (n := ?n) ?h ?e ?q); (case h => walk_at "at"); (case e => rfl))
  | ((with_reducible refine R.append (xs := ?xs) ?h ?e ?q); (case h => walk_at "at"); (case e => walk_at "cond"))
  | with_reducible refine R.is_ ?_ | with_reducible refine R.isnot ?_ | with_reducible refine R.andV ?_ | with_reducible refine R.orV ?_ | with_reducible refine R.notV ?_
  | ((with_reducible refine R.isi (s := ?s) (b := ?b) ?ty ?h ?q); (case ty => walk_at "ty"); (case h => walk_at "kit"))
  | ((with_reducible refine R.addS ?h ?q); (case h => walk_at "sz")) | with_reducible refine R.max2 ?_ | with_reducible refine R.min2 ?_
  | ((with_reducible refine R.lenStr ?h ?q); (case h => walk_at "szl")) | ((with_reducible refine R.ixS (n := ?n) ?h ?e ?q); (case h => walk_at "szl"); (case e => walk_at "ix"))
  | ((with_reducible refine R.tyl (xs := ?xs) ?h ?q); (case h => walk_at "at")) | with_reducible refine R.itlist ?_ | with_reducible refine R.ittup ?_ | with_reducible refine R.m1 ?_ | with_reducible refine R.m1s ?_ | with_reducible refine R.leS ?_ | with_reducible refine R.itstr ?_ | with_reducible refine R.itstrE ?_ | with_reducible refine R.lc ?_ | with_reducible refine R.lc2 ?_ | with_reducible refine R.ckw ?_ | with_reducible refine R.par ?_ | with_reducible refine R.parE ?_ | with_reducible refine R.itrev ?_ | with_reducible refine R.dsetd ?_ | with_reducible refine R.dnotin_ ?_ | with_reducible refine R.for_ ?_ | ((with_reducible refine R.all_ (bs := ?bs) ?h ?q); (case h => walk_at "at"))
  | with_reducible refine R.rng1 ?_ | ((with_reducible refine R.rngE ?h ?q); (case h => (constructor <;> omega)))
  | ((with_reducible refine R.lenT (xs := ?xs) ?h ?q); (case h => walk_at "sqt")) | ((with_reducible refine R.ixT (xs := ?xs) (v := ?v) ?h ?e ?q); (case h => walk_at "sqt"); (case e => walk_at "ix"))
  | ((refine R.itlE (xs := ?xs) ?h ?q); (case h => walk_at "at")) | ((refine R.ittE (xs := ?xs) ?h ?q); (case h => walk_at "at"))
  | ((refine R.gseq (xs := ?xs) ?h ?e ?q); (case h => walk_at "sqa"); (case e => rfl)) | ((refine R.ixA (xs := ?xs) (v := ?v) ?h ?e ?q); (case h => walk_at "sqa"); (case e => walk_at "ix")) | ((refine R.lenA (xs := ?xs) ?h ?q); (case h => walk_at "sqa"))
  | ((with_reducible refine R.gtup (xs := ?xs) ?h ?e ?q); (case h => walk_at "sqt"); (case e => rfl))
  | with_reducible refine R.din_ ?_ | with_reducible refine R.dput_ ?_
  | with_reducible refine R.dget2_ ?_ | ((with_reducible refine R.aug_ (x := ?x) ?h ?q); case h => rfl) | with_reducible refine R.ipI_ ?_
  | with_reducible refine R.rng2 ?_ | ((with_reducible refine R.rngE2 ?h ?q); (case h => (refine ⟨?_, ?_, ?_, ?_⟩ <;> omega)))
  | with_reducible refine R.brk ?_ | with_reducible refine R.intB ?_ | with_reducible refine R.meth_ ?_ | ((refine KN.methS (rs := ?rs) (ms := ?ms) ?h (fun _ _ _ _ => rfl) ?q); case h => walk_at "sys")
  | with_reducible refine R.sl_ ?_ | with_reducible refine R.np_ ?_ | with_reducible refine R.pt_ ?_ | with_reducible refine R.ptE ?_ | with_reducible refine R.dget_ ?_ | with_reducible refine R.revL_ ?_
  | ((refine R.dgetS (kvs := ?kvs) (v := ?v) ?h ?e ?q); (case h => walk_at "at"); (case e => walk_at "dk"))
  | with_reducible refine R.sfld ?_ | with_reducible refine R.fld_ ?_ | with_reducible refine R.dc ?_
  | with_reducible refine R.dget1_ ?_
  | with_reducible refine R.itseq ?_ | with_reducible refine R.itenum ?_
  | with_reducible refine R.itT ?_ | with_reducible refine R.itF ?_ | with_reducible refine R.itNT ?_ | with_reducible refine R.itNF ?_
  | (with_reducible refine R.tup ?_) | (with_reducible refine R.lst ?_))
local macro_rules | `(tactic| walk_at "rd") => `(tactic| (repeat (first | walk_at "r1" | (dsimp only [Int.reduceToNat, List.set_cons_succ, List.set_cons_zero, List.length_cons, List.length_nil, List.nil_append, List.cons_append, List.append_nil]))))
local macro_rules | `(tactic| walk_at "go") => `(tactic| (rw [R.start_eq]; dsimp only [R.startE, List.map_nil]; walk_at "rd"))
namespace KN
open PySem L2 SX R
open C8 (Cal Def cal0 pe_c pe_gc fnScope fnBody pss_cut)
section
variable {P : Program} {w : World} {K : PySem.W.Frag} {mg : Str → Option Value} {base : Heap}
abbrev sWord : Stmt := top 27
theorem scWord : FnScope ["pool", "number", "letters", "total", "found", "k"] ["pool", "number"] (fnScope sWord) := ⟨rfl, rfl, rfl, by decide +kernel, rfl, by decide +kernel, by decide +kernel⟩
/-- the first letter of the word with a number -/
def tot (cs : List Int) : Int := (cs.take 5).sum
def lead (cs : List Int) (n : Int) : Nat := 97 + ((n * (1 + (tot cs).fmod 22) + tot cs).fmod 23).toNat
def WordN (cs : List Int) (n : Int) (z : Str) : Prop := ∃ r : List Nat, z = S (lead cs n :: r) ∧ r.length ≤ 7 ∧ ∀ c ∈ r, 97 ≤ c ∧ c ≤ 122
theorem lead_lt (cs : List Int) (n : Int) : 97 ≤ lead cs n ∧ lead cs n ≤ 119 := by
  unfold lead
  have := fmod_lt (a := n * (1 + (tot cs).fmod 22) + tot cs) (m := 23) (by decide)
  omega
theorem WordN.good {cs : List Int} {n : Int} {z : Str} (h : WordN cs n z) : GoodW z := by
  obtain ⟨r, rfl, h1, h2⟩ := h
  have := lead_lt cs n
  refine ⟨_, rfl, by simp, by simp; omega, fun c hc => ?_⟩
  rcases List.mem_cons.mp hc with e | e
  · subst e; omega
  · exact h2 c e
theorem mul23 : ∀ a, a < 22 → ∀ d, d < 22 → ((d + 1) * (a + 1)) % 23 ≠ 0 := by decide +kernel
theorem lead_ne {cs : List Int} {n m : Int} (h : n < m) (h2 : m < n + 23) (e : lead cs n = lead cs m) : False := by
  unfold lead at e
  have z1 := fmod_lt (a := n * (1 + (tot cs).fmod 22) + tot cs) (m := 23) (by decide)
  have z2 := fmod_lt (a := m * (1 + (tot cs).fmod 22) + tot cs) (m := 23) (by decide)
  have z3 := fmod_lt (a := tot cs) (m := 22) (by decide)
  generalize (tot cs).fmod 22 = a at *
  rw [Int.fmod_eq_emod_of_nonneg _ (by decide)] at *
  rw [Int.fmod_eq_emod_of_nonneg _ (by decide)] at *
  have e2 : (n * (1 + a) + tot cs) % 23 = (m * (1 + a) + tot cs) % 23 := by omega
  have e3 : ((m - n) * (1 + a)) % 23 = 0 := by
    have : (m - n) * (1 + a) = (m * (1 + a) + tot cs) - (n * (1 + a) + tot cs) := by
      rw [Int.sub_mul]; omega
    rw [this, Int.sub_emod, e2, Int.sub_self]; rfl
  have q := mul23 a.toNat (by omega) (m - n - 1).toNat (by omega)
  refine q ?_
  have c1 : (((m - n - 1).toNat + 1 : Nat) : Int) = m - n := by omega
  have c2 : ((a.toNat + 1 : Nat) : Int) = 1 + a := by omega
  have : ((((m - n - 1).toNat + 1) * (a.toNat + 1) : Nat) : Int) % 23 = 0 := by
    rw [Int.natCast_mul, c1, c2]; exact e3
  omega
theorem WordN.inj {cs : List Int} {n m : Int} {z : Str} (h1 : WordN cs n z) (h2 : WordN cs m z) (a : n < m + 23) (b : m < n + 23) : n = m := by
  obtain ⟨r, rfl, _, _⟩ := h1
  obtain ⟨r', e, _, _⟩ := h2
  have e' := S_inj e
  have e2 := (List.cons.inj e').1
  rcases Int.lt_trichotomy n m with q | q | q
  · exact (lead_ne q b e2).elim
  · exact q
  · exact (lead_ne q a e2.symm).elim
abbrev lettersV : V := .str (Str.ofString "abcdefghijklmnopqrstuvwxyz")
def spWord : Sp := fun vs H Q _ => ∃ (p l : Addr) (cs : List Int) (n : Int), vs = [.ref p, .int n] ∧ PoolAt H p l ∧ H l = some (.lst (cs.map V.int)) ∧ 0 ≤ n ∧ n ≤ 1000 ∧
  ∀ H' z, SameBut p H H' → PoolAt H' p l → WordN cs n z → Q (.str z) H'
theorem c_word (Z : Zs mg) (c_take : Cal P w K mg base 2 "_law_take" spTake []) {f : Addr} {fd : FuncData} (F : Def K mg "_law_word" sWord f fd) (b : Binds K fd ["pool", "number"] []) : Cal P w K mg base 3 "_law_word" spWord [] := by
  refine cal0 F b .nil scWord (fun vs H Q E h => ?_) (fun cdv A outer s H vs Q E hr h => ?_)
  · obtain ⟨p, l, cs, n, rfl, _⟩ := h
    rfl
  · obtain ⟨p, l, cs, n, rfl, hP, hl, n0, n1, k⟩ := h
    refine ⟨_, pss_cons (ps_set (i := 2) scWord.nd rfl (Or.inl rfl) pe_str)
      (pss_cons (ps_set (i := 3) scWord.nd rfl (Or.inl rfl) (pe_callB (kSum K) (by rfl) Z.sum (by decide +kernel) (pa_cons (pe_slice (kSlL K) (pe_ix (kIxL K) (pv 0) pe_int (fun _ _ => rfl)) po_none (po_some pe_int)) pa_nil)))
      (pss_cons (ps_set (i := 4) scWord.nd rfl (Or.inl rfl) (pe_ix ix_str (pv 2) (pe_op op_modN (pe_callTy cInt (by rfl) Z.int (by decide +kernel) (pa_cons (pe_op op_add (pe_op op_mul (pv 1) (pe_op op_add pe_int (pe_op op_modN (pe_callTy cInt (by rfl) Z.int (by decide +kernel) (pa_cons (pv 3) pa_nil)) pe_int))) (pv 3)) pa_nil)) pe_int) (fun _ _ => rfl)))
      (pss_cons (ps_for PassesOwn.never rfl (pi_range1 (by rfl) Z.range (pa_cons (pe_op op_mul (pe_op op_fdivN (pe_c c_take hr (by omega) (by rfl) (pa_cons (pv 0) (pa_cons pe_int pa_nil))) pe_int) (pe_c c_take hr (by omega) (by rfl) (pa_cons (pv 0) (pa_cons pe_int pa_nil)))) pa_nil)) (pg_name (i := 5) scWord.nd rfl (Or.inl rfl))
        (pss_one (ps_set (i := 4) scWord.nd rfl (Or.inl rfl) (pe_op oAddS (pv 4) (pe_ix ix_str (pv 2) (pe_c c_take hr (by omega) (by rfl) (pa_cons (pv 0) (pa_cons pe_int pa_nil))) (fun _ _ => rfl))))))
      (pss_one (ps_ret (pv 4)))))), ?_⟩
    obtain ⟨⟨cs', i0, d0, s0, hp, hl', hpos⟩, hne⟩ := hP
    have hP : PoolAt H p l := ⟨⟨cs', i0, d0, s0, hp, hl', hpos⟩, hne⟩
    walk_at "go"
    refine slLN hl fun a H1 s1 _ ha => ?_
    rw [cut_to _ (by decide)] at ha
    have ha' : H1 a = some (.lst ((cs.take 5).map V.int)) := by rw [ha, List.map_take]; rfl
    have hP1 := hP.same s1
    walk_at "rd"
    refine sum_ ha' ?_
    walk_at "rd"
    have eL : lead cs n = 97 + ((n * (1 + (tot cs).fmod 22) + tot cs).fmod 23).toNat := rfl
    have tq : (cs.take 5).sum = tot cs := rfl
    rw [tq]
    have z1 := fmod_lt (a := n * (1 + (tot cs).fmod 22) + tot cs) (m := 23) (by decide)
    generalize (n * (1 + (tot cs).fmod 22) + tot cs).fmod 23 = g at eL z1
    have e3 := letters_at (d := g) z1.1 (by omega)
    walk_at "rd"
    refine r_take' hP1 (by decide) (by decide) (fun H2 d2 e2 P2 n2 n3 => ?_)
    walk_at "rd"
    obtain ⟨q, hq, q0⟩ : ∃ q : Int, d2.fdiv 6 = q ∧ (q = 0 ∨ q = 1) := ⟨_, rfl, by rw [Int.fdiv_eq_ediv_of_nonneg _ (by decide)]; omega⟩
    rw [hq]
    refine r_take' P2 (by decide) (by decide) (fun H3 d3 e3' P3 n4 n5 => ?_)
    refine R.ic (by rcases q0 with rfl | rfl <;> first | exact Or.inl (by decide) | exact Or.inl ⟨by decide, by decide⟩) ?_
    obtain ⟨m, hm, m0, m1⟩ : ∃ m : Int, q * d3 = m ∧ 0 ≤ m ∧ m ≤ 7 := ⟨_, rfl, by rcases q0 with rfl | rfl <;> omega, by rcases q0 with rfl | rfl <;> omega⟩
    rw [hm]
    walk_at "rd"
    rw [← eL]
    have b3 : SameBut p H H3 := ((SameBut.of s1).trans e2).trans e3'
    refine for_it walk_range (fun i σ' H' => ∃ (kv : Option V) (r : List Nat), σ' = [some (.ref p), some (.int n), some lettersV, some (.int (tot cs)), some (.str (S (lead cs n :: r))), kv] ∧ SameBut p H H' ∧ PoolAt H' p l ∧ r.length = i ∧ ∀ c ∈ r, 97 ≤ c ∧ c ≤ 122)
      ⟨none, [], rfl, b3, P3, rfl, fun c h => nomatch h⟩ (fun _ _ _ _ _ => trivial) ?_ ?_
    · rintro i x σ' H4 H4' hi ⟨kv, r, rfl, b4, P4, hr1, hr2⟩ ⟨rfl, rfl⟩
      walk_at "rd"
      refine r_take' P4 (by decide) (by decide) (fun H5 d5 e5 P5 n6 n7 => ?_)
      have e6 := letters_at (d := d5) n6 (by omega)
      have hz : (S (lead cs n :: r)).length + (S [97 + d5.toNat]).length ≤ sizeLine := by
        rw [S_len, S_len]
        refine Nat.le_trans ?_ (show 1000 ≤ sizeLine by decide)
        show (r.length + 1) + 1 ≤ 1000
        omega
      walk_at "rd"
      rw [S_cat]
      exact ⟨_, r ++ [97 + d5.toNat], rfl, b4.trans e5, P5, by simp [hr1], fun c hc => by
        rcases List.mem_append.mp hc with h | h
        · exact hr2 c h
        · rw [List.mem_singleton.mp h]; omega⟩
    · rintro σ' H4 ⟨kv, r, rfl, b4, P4, hr1, hr2⟩
      walk_at "rd"
      exact k _ _ b4 P4 ⟨r, rfl, by omega, hr2⟩
end
end KN
end
section
set_option Elab.async false
set_option linter.all false
set_option maxRecDepth 100000
set_option maxHeartbeats 4000000
set_option pp.maxSteps 1500
set_option pp.deepTerms false
local macro_rules | `(tactic| walk_at "ne") => `(tactic| first
  | assumption | (apply Ne.symm; assumption)
  | exact R.ne_new (by assumption) | exact (R.ne_new (by assumption)).symm
  | exact L2.ne_of_none (by assumption) (by assumption) | exact (L2.ne_of_none (by assumption) (by assumption)).symm
  | exact L2.ne_of_none (by assumption) (R.free_new (by assumption)) | exact (L2.ne_of_none (by assumption) (R.free_new (by assumption))).symm)
local macro_rules | `(tactic| walk_at "at") => `(tactic| first
  | assumption | exact L2.upd_same
  | (refine R.sb (H := ?H) (p := ?p) ?e ?n ?h; (case e => assumption); (case n => walk_at "ne"); (case h => walk_at "at"))
  | (refine R.sm (H := ?H) ?e ?h; (case e => assumption); (case h => walk_at "at"))
  | (refine Eq.trans (L2.upd_ne ?_) ?_ <;> first | walk_at "ne" | walk_at "at"))
local macro_rules | `(tactic| walk_at "sqt") => `(tactic| first | assumption | (refine L2.SqT.of ?_; walk_at "at"))
local macro_rules | `(tactic| walk_at "ty") => `(tactic| first | exact R.tyN | exact R.tyB | exact R.tyI | exact R.tyS | (refine R.tyT (xs := ?xs) ?h; case h => walk_at "at") | (refine R.tyL (xs := ?xs) ?h; case h => walk_at "at"))
local macro_rules | `(tactic| walk_at "kit") => `(tactic| first | exact R.kit_NoneType_tuple | exact R.kit_NoneType_list | exact R.kit_NoneType_bool | exact R.kit_NoneType_str | exact R.kit_NoneType_int | exact R.kit_bool_tuple | exact R.kit_bool_list | exact R.kit_bool_bool | exact R.kit_bool_str | exact R.kit_bool_int | exact R.kit_int_tuple | exact R.kit_int_list | exact R.kit_int_bool | exact R.kit_int_str | exact R.kit_int_int | exact R.kit_str_tuple | exact R.kit_str_list | exact R.kit_str_bool | exact R.kit_str_str | exact R.kit_str_int | exact R.kit_tuple_tuple | exact R.kit_tuple_list | exact R.kit_tuple_bool | exact R.kit_tuple_str | exact R.kit_tuple_int | exact R.kit_list_tuple | exact R.kit_list_list | exact R.kit_list_bool | exact R.kit_list_str | exact R.kit_list_int)
local macro_rules | `(tactic| walk_at "sz") => `(tactic| first | assumption | (refine Nat.le_trans ?_ (show 1000 ≤ PySem.sizeLine by decide); omega) | decide)
local macro_rules | `(tactic| walk_at "szl") => `(tactic| first | assumption | exact Nat.le_of_lt (L2.small1000 (by omega)) | decide | decide +kernel)
local macro_rules | `(tactic| walk_at "sys") => `(tactic| first | assumption | exact KN.SysAt.same (by assumption) (by assumption))
local macro_rules | `(tactic| walk_at "dk") => `(tactic| first | exact R.rowsS _ _ | exact R.rowsM _ _)
local macro_rules | `(tactic| walk_at "sqa") => `(tactic| first | assumption | exact R.SeqA.same (by assumption) (by assumption) | exact R.SeqA.new (by assumption) (by assumption) | (exact Or.inl (by walk_at "at")) | (exact Or.inr (by walk_at "at")))
local macro_rules | `(tactic| walk_at "ix") => `(tactic| first | rfl | (exact L2.atI_nat (by assumption)) | assumption)
local macro_rules | `(tactic| walk_at "cond") => `(tactic| first
  | exact Or.inl (by decide) | exact Or.inr (by decide) | exact Or.inl ⟨by omega, by omega⟩ | exact Or.inr ⟨by omega, by omega⟩
  | (constructor <;> omega) | (show _ ≠ _; omega) | decide | omega)
local macro_rules | `(tactic| walk_at "r1") => `(tactic| first
  | with_reducible refine R.seq ?_ | with_reducible refine R.asg ?_ | with_reducible refine R.ifs ?_ | with_reducible refine R.ret ?_ | with_reducible refine R.retN ?_ | with_reducible refine R.drop ?_ | with_reducible refine R.next ?_
  | with_reducible refine R.op ?_ | ((with_reducible refine R.var (v := ?v) ?h ?q); case h => rfl) | with_reducible refine R.c ?_ | with_reducible refine R.tst ?_ | with_reducible refine R.tb_ ?_ | with_reducible refine R.ex ?_
  | with_reducible refine R.i0 ?_ | with_reducible refine R.eqI ?_ | with_reducible refine R.neI ?_ | ((with_reducible refine R.ic ?_ ?_); · walk_at "cond") | with_reducible refine R.u0 ?_ | with_reducible refine R.un ?_
  | ((with_reducible refine R.eq ?_ ?_); · rfl) | ((with_reducible refine R.ne ?_ ?_); · rfl)
  | with_reducible refine R.and_ ?_ | with_reducible refine R.or_ ?_ | with_reducible refine R.not_ ?_ | with_reducible refine R.ife ?_ | with_reducible refine R.chain ?_
  | with_reducible refine R.cons ?_ | with_reducible refine R.nil ?_ | with_reducible refine R.call ?_ | with_reducible refine R.cb ?_ | with_reducible refine R.bm ?_
  | with_reducible refine R.gname ?_ | with_reducible refine R.gsub ?_ | with_reducible refine R.gnil ?_ | with_reducible refine R.gcons ?_ | with_reducible refine R.yes ?_
  | with_reducible refine R.int1 ?_ | ((with_reducible refine R.lenL (xs := ?xs) ?h ?q); case h => walk_at "at")
  | ((with_reducible refine R.ixL (xs := ?xs) (v := ?v) ?h ?e ?q); (case h => walk_at "at"); (case e => walk_at "ix"))
  | ((with_reducible refine R.setL (xs := ?xs) (n := ?n) ?h ?e ?q); (case h => walk_at "at"); (case e => rfl))
  | ((with_reducible refine R.append (xs := ?xs) ?h ?e ?q); (case h => walk_at "at"); (case e => walk_at "cond"))
  | with_reducible refine R.is_ ?_ | with_reducible refine R.isnot ?_ | with_reducible refine R.andV ?_ | with_reducible refine R.orV ?_ | with_reducible refine R.notV ?_
  | ((with_reducible refine R.isi (s := ?s) (b := ?b) ?ty ?h ?q); (case ty => walk_at "ty"); (case h => walk_at "kit"))
  | ((with_reducible refine R.addS ?h ?q); (case h => walk_at "sz")) | with_reducible refine R.max2 ?_ | with_reducible refine R.min2 ?_
  | ((with_reducible refine R.lenStr ?h ?q); (case h => walk_at "szl")) | ((with_reducible refine R.ixS (n := ?n) ?h ?e ?q); (case h => walk_at "szl"); (case e => walk_at "ix"))
  | ((with_reducible refine R.tyl (xs := ?xs) ?h ?q); (case h => walk_at "at")) | with_reducible refine R.itlist ?_ | with_reducible refine R.ittup ?_ | with_reducible refine R.m1 ?_ | with_reducible refine R.m1s ?_ | with_reducible refine R.leS ?_ | with_reducible refine R.itstr ?_ | with_reducible refine R.itstrE ?_ | with_reducible refine R.lc ?_ | with_reducible refine R.lc2 ?_ | with_reducible refine R.ckw ?_ | with_reducible refine R.par ?_ | with_reducible refine R.parE ?_ | with_reducible refine R.itrev ?_ | with_reducible refine R.dsetd ?_ | with_reducible refine R.dnotin_ ?_ | with_reducible refine R.for_ ?_ | ((with_reducible refine R.all_ (bs := ?bs) ?h ?q); (case h => walk_at "at"))
  | with_reducible refine R.rng1 ?_ | ((with_reducible refine R.rngE ?h ?q); (case h => (constructor <;> omega)))
  | ((with_reducible refine R.lenT (xs := ?xs) ?h ?q); (case h => walk_at "sqt")) | ((with_reducible refine R.ixT (xs := ?xs) (v := ?v) ?h ?e ?q); (case h => walk_at "sqt"); (case e => walk_at "ix"))
  | ((refine R.itlE (xs := ?xs) ?h ?q); (case h => walk_at "at")) | ((refine R.ittE (xs := ?xs) ?h ?q); (case h => walk_at "at"))
  | ((refine R.gseq (xs := ?xs) ?h ?e ?q); (case h => walk_at "sqa"); (case e => rfl)) | ((refine R.ixA (xs := ?xs) (v := ?v) ?h ?e ?q); (case h => walk_at "sqa"); (case e => walk_at "ix")) | ((refine R.lenA (xs := ?xs) ?h ?q); (case h => walk_at "sqa"))
  | ((with_reducible refine R.gtup (xs := ?xs) ?h ?e ?q); (case h => walk_at "sqt"); (case e => rfl))
  | with_reducible refine R.din_ ?_ | with_reducible refine R.dput_ ?_
  | with_reducible refine R.dget2_ ?_ | ((with_reducible refine R.aug_ (x := ?x) ?h ?q); case h => rfl) | with_reducible refine R.ipI_ ?_
  | with_reducible refine R.rng2 ?_ | ((with_reducible refine R.rngE2 ?h ?q); (case h => (refine ⟨?_, ?_, ?_, ?_⟩ <;> omega)))
  | with_reducible refine R.brk ?_ | with_reducible refine R.intB ?_ | with_reducible refine R.meth_ ?_ | ((refine KN.methS (rs := ?rs) (ms := ?ms) ?h (fun _ _ _ _ => rfl) ?q); case h => walk_at "sys")
  | with_reducible refine R.sl_ ?_ | with_reducible refine R.np_ ?_ | with_reducible refine R.pt_ ?_ | with_reducible refine R.ptE ?_ | with_reducible refine R.dget_ ?_ | with_reducible refine R.revL_ ?_
  | ((refine R.dgetS (kvs := ?kvs) (v := ?v) ?h ?e ?q); (case h => walk_at "at"); (case e => walk_at "dk"))
  | with_reducible refine R.sfld ?_ | with_reducible refine R.fld_ ?_ | with_reducible refine R.dc ?_
  | with_reducible refine R.dget1_ ?_
  | with_reducible refine R.itseq ?_ | with_reducible refine R.itenum ?_
  | with_reducible refine R.itT ?_ | with_reducible refine R.itF ?_ | with_reducible refine R.itNT ?_ | with_reducible refine R.itNF ?_
  | (with_reducible refine R.tup ?_) | (with_reducible refine R.lst ?_))
local macro_rules | `(tactic| walk_at "rd") => `(tactic| (repeat (first | walk_at "r1" | (dsimp only [Int.reduceToNat, List.set_cons_succ, List.set_cons_zero, List.length_cons, List.length_nil, List.nil_append, List.cons_append, List.append_nil]))))
local macro_rules | `(tactic| walk_at "go") => `(tactic| (rw [R.start_eq]; dsimp only [R.startE, List.map_nil]; walk_at "rd"))
namespace KN
open PySem L2 SX R
theorem methS {S x : Addr} {n : Str} {H : Hp} {rs : List SR} {ms : List MR} {T : Prop} (hX : SysAt S H x rs ms) (hn : ∀ a b c d, (sysFs a b c d).lookup n = none) (q : T) : ∃ a dx fs, V.ref x = .ref a ∧ H a = some (.ins S dx fs) ∧ fs.lookup n = none ∧ T := by
  obtain ⟨dx, s, m, v, r, xs, ys, h, _⟩ := hX
  exact ⟨x, dx, _, rfl, h, hn _ _ _ _, q⟩
section
variable {H0 H H' : Hp} {p l s m r : Addr} {cs : List Int} {xs ys : List V} {ds es : List (List V)}
/-- a list under construction, beside the pool -/
structure DL (H0 H : Hp) (p l s : Addr) (cs : List Int) (xs : List V) (ds : List (List V)) : Prop where
  sb : SameBut p H0 H
  P : PoolAt H p l
  hl : H l = some (.lst (cs.map V.int))
  hs : H s = some (.lst xs)
  ts : TupsAt H xs ds
  s0 : H0 s = none
  sp : s ≠ p
  sl : s ≠ l
theorem DL.take (R : DL H0 H p l s cs xs ds) (e : SameBut p H H') (P : PoolAt H' p l) : DL H0 H' p l s cs xs ds :=
  ⟨R.sb.trans e, P, e _ _ P.ne R.hl, e _ _ R.sp R.hs, R.ts.keep (keep_pool R.P e), R.s0, R.sp, R.sl⟩
theorem DL.same (R : DL H0 H p l s cs xs ds) (e : Same H H') : DL H0 H' p l s cs xs ds := R.take (SameBut.of e) (R.P.same e)
theorem DL.app {a : Addr} {d : List V} (R : DL H0 H p l s cs xs ds) (h : H a = some (.tup d)) : DL H0 (upd H s (.lst (xs ++ [.ref a]))) p l s cs (xs ++ [.ref a]) (ds ++ [d]) :=
  ⟨R.sb.put' R.s0, R.P.put R.sp R.sl, by rw [upd_ne R.sl.symm]; exact R.hl, upd_same, (R.ts.keep (keep_list R.hs)).snoc (keep_list R.hs _ _ h), R.s0, R.sp, R.sl⟩
/-- two of them -/
structure DM (H0 H : Hp) (p l s m : Addr) (cs : List Int) (xs : List V) (ds : List (List V)) (ys : List V) (es : List (List V)) : Prop where
  R : DL H0 H p l s cs xs ds
  hm : H m = some (.lst ys)
  tm : TupsAt H ys es
  m0 : H0 m = none
  mp : m ≠ p
  ml : m ≠ l
  ms : m ≠ s
theorem DM.take (M : DM H0 H p l s m cs xs ds ys es) (e : SameBut p H H') (P : PoolAt H' p l) : DM H0 H' p l s m cs xs ds ys es :=
  ⟨M.R.take e P, e _ _ M.mp M.hm, M.tm.keep (keep_pool M.R.P e), M.m0, M.mp, M.ml, M.ms⟩
theorem DM.same (M : DM H0 H p l s m cs xs ds ys es) (e : Same H H') : DM H0 H' p l s m cs xs ds ys es := M.take (SameBut.of e) (M.R.P.same e)
theorem DM.app {a : Addr} {d : List V} (M : DM H0 H p l s m cs xs ds ys es) (h : H a = some (.tup d)) : DM H0 (upd H m (.lst (ys ++ [.ref a]))) p l s m cs xs ds (ys ++ [.ref a]) (es ++ [d]) :=
  ⟨⟨M.R.sb.put' M.m0, M.R.P.put M.mp M.ml, by rw [upd_ne M.ml.symm]; exact M.R.hl, by rw [upd_ne M.ms.symm]; exact M.R.hs, M.R.ts.keep (keep_list M.hm), M.R.s0, M.R.sp, M.R.sl⟩,
    upd_same, (M.tm.keep (keep_list M.hm)).snoc (keep_list M.hm _ _ h), M.m0, M.mp, M.ml, M.ms⟩
theorem DL.nil0 (R : DL H0 H p l s cs xs ds) {t : Addr} (h : H t = none) : H0 t = none := by
  cases z : H0 t with
  | none => rfl
  | some o =>
    have : t = p := by
      by_cases e : t = p
      · exact e
      · have := R.sb _ _ e z
        rw [h] at this
        cases this
    exact absurd this (R.P.nep h).1
theorem DL.of (hP : PoolAt H p l) (hl : H l = some (.lst (cs.map V.int))) (e : SameBut p H H') (P : PoolAt H' p l) (n : H' s = none) : DL H (upd H' s (.lst [])) p l s cs [] [] := by
  obtain ⟨sp, sl⟩ := P.nep n
  have s0 : H s = none := by
    cases z : H s with
    | none => rfl
    | some o => have := e _ _ sp z; rw [n] at this; cases this
  exact ⟨e.new n, P.new n, by rw [upd_ne sl.symm]; exact e _ _ P.ne hl, upd_same, .nil, s0, sp, sl⟩
theorem DM.of (R : DL H0 H p l s cs xs ds) (n : H m = none) : DM H0 (upd H m (.lst [])) p l s m cs xs ds [] [] := by
  obtain ⟨mp, ml⟩ := R.P.nep n
  exact ⟨R.same (same_new (Same.refl _) n), upd_same, .nil, R.nil0 n, mp, ml, (ne_of_none R.hs n).symm⟩
/-- the two lists of a drawn system, in a dict -/
def RowsAt (H : Hp) (r : Addr) (rs : List SR) (ms : List MR) : Prop := ∃ (s m : Addr) (xs ys : List V), H r = some (.dK (rowsKs s m)) ∧ H s = some (.lst xs) ∧ TupsAt H xs (rs.map srV) ∧ H m = some (.lst ys) ∧ TupsAt H ys (ms.map mrV)
theorem tups_ne (h : PoolAt H p l) (hs : H s = some (.lst xs)) (ts : TupsAt H xs ds) : s ≠ p := by
  rintro rfl
  obtain ⟨⟨cs, i, d, z, h1, _⟩, _⟩ := h
  rw [h1] at hs
  cases hs
  cases ts with
  | cons _ t => cases t
theorem RowsAt.pool {rs : List SR} {ms : List MR} (h : RowsAt H r rs ms) (P : PoolAt H p l) (e : SameBut p H H') : RowsAt H' r rs ms := by
  obtain ⟨s, m, xs, ys, h1, h2, h3, h4, h5⟩ := h
  have rp : r ≠ p := by
    rintro rfl
    obtain ⟨⟨cs, i, d, z, h1', _⟩, _⟩ := P
    rw [h1] at h1'
    cases h1'
  exact ⟨s, m, xs, ys, e _ _ rp h1, e _ _ (tups_ne P h2 h3) h2, h3.keep (keep_pool P e), e _ _ (tups_ne P h4 h5) h4, h5.keep (keep_pool P e)⟩
theorem RowsAt.same {rs : List SR} {ms : List MR} (h : RowsAt H r rs ms) (e : Same H H') : RowsAt H' r rs ms := by
  obtain ⟨s, m, xs, ys, h1, h2, h3, h4, h5⟩ := h
  exact ⟨s, m, xs, ys, e _ _ h1, e _ _ h2, h3.keep (fun a d q => e _ _ q), e _ _ h4, h5.keep (fun a d q => e _ _ q)⟩
end
/-- begins with a letter ahead of x -/
def Fst (z : Str) : Prop := ∃ (c : Nat) (r : List Nat), z = S (c :: r) ∧ c < 120
theorem WordN.fst {cs : List Int} {n : Int} {z : Str} (h : WordN cs n z) : Fst z := by
  obtain ⟨r, rfl, _⟩ := h
  exact ⟨_, r, rfl, by have := lead_lt cs n; omega⟩
/-- a drawn system with bounds -/
structure Drawn (sv mv mc : Int) (rs : List SR) (ms : List MR) : Prop where
  g : GoodSys rs ms
  s : ∀ r ∈ rs, r.v ≤ sv
  v : ∀ m ∈ ms, m.v ≤ mv
  c : ∀ m ∈ ms, ∀ c, m.c = some c → c ≤ mc
  n : rs.length ≤ 16
  f : ∀ z ∈ rs.map (·.w) ++ ms.map (·.w), Fst z
theorem Drawn.mono {sv mv mc sv' mv' mc' : Int} {rs : List SR} {ms : List MR} (h : Drawn sv mv mc rs ms) (h1 : sv ≤ sv') (h2 : mv ≤ mv') (h3 : mc ≤ mc') : Drawn sv' mv' mc' rs ms :=
  ⟨h.g, fun r hr => Int.le_trans (h.s r hr) h1, fun m hm => Int.le_trans (h.v m hm) h2, fun m hm c hc => Int.le_trans (h.c m hm c hc) h3, h.n, h.f⟩
/-- words of numbers that differ are different -/
theorem nodupW {cs : List Int} {ws : List Str} (f : Nat → Int) (h : ∀ i z, ws[i]? = some z → WordN cs (f i) z) (hf : ∀ i j, i < j → j < ws.length → f i ≠ f j ∧ f i < f j + 23 ∧ f j < f i + 23) : ws.Nodup := by
  rw [List.nodup_iff_pairwise_ne, List.pairwise_iff_getElem]
  intro i j hi hj hij e
  obtain ⟨n, a, b⟩ := hf i j hij hj
  have w1 := h i _ (List.getElem?_eq_getElem hi)
  have w2 := h j _ (List.getElem?_eq_getElem hj)
  rw [e] at w1
  exact n (w1.inj w2 a b)
def spDrawn (sv mv mc : Int) : Sp := fun vs H Q _ => ∃ (p l : Addr) (cs : List Int), vs = [.ref p] ∧ PoolAt H p l ∧ H l = some (.lst (cs.map V.int)) ∧
  ∀ (H' : Hp) (r : Addr) (rs : List SR) (ms : List MR), SameBut p H H' → PoolAt H' p l → RowsAt H' r rs ms → Drawn sv mv mc rs ms → Q (.ref r) H'
theorem spDrawn.mono {sv mv mc sv' mv' mc' : Int} {vs : List V} {H : Hp} {Q : VK} {E : XK} (h : spDrawn sv' mv' mc' vs H Q E) (h1 : sv ≤ sv') (h2 : mv ≤ mv') (h3 : mc ≤ mc') : spDrawn sv mv mc vs H Q E := by
  obtain ⟨p, l, cs, e, hP, hl, k⟩ := h
  exact ⟨p, l, cs, e, hP, hl, fun H' r rs ms a b c d => k H' r rs ms a b c (d.mono h1 h2 h3)⟩
theorem r_word {H : Hp} {Q : VK} {E : XK} {p l : Addr} {cs : List Int} {n : Int} (P : PoolAt H p l) (hl : H l = some (.lst (cs.map V.int))) (h0 : 0 ≤ n) (h1 : n ≤ 1000)
    (q : ∀ H' z, SameBut p H H' → PoolAt H' p l → WordN cs n z → Q (.str z) H') : spWord [.ref p, .int n] H Q E := ⟨p, l, cs, n, rfl, P, hl, h0, h1, q⟩
end KN
end
section
set_option Elab.async false
set_option linter.all false
set_option maxRecDepth 100000
set_option maxHeartbeats 4000000
set_option pp.maxSteps 1500
set_option pp.deepTerms false
local macro_rules | `(tactic| walk_at "ne") => `(tactic| first
  | assumption | (apply Ne.symm; assumption)
  | exact R.ne_new (by assumption) | exact (R.ne_new (by assumption)).symm
  | exact L2.ne_of_none (by assumption) (by assumption) | exact (L2.ne_of_none (by assumption) (by assumption)).symm
  | exact L2.ne_of_none (by assumption) (R.free_new (by assumption)) | exact (L2.ne_of_none (by assumption) (R.free_new (by assumption))).symm)
local macro_rules | `(tactic| walk_at "at") => `(tactic| first
  | assumption | exact L2.upd_same
  | (refine R.sb (H := ?H) (p := ?p) ?e ?n ?h; (case e => assumption); (case n => walk_at "ne"); (case h => walk_at "at"))
  | (refine R.sm (H := ?H) ?e ?h; (case e => assumption); (case h => walk_at "at"))
  | (refine Eq.trans (L2.upd_ne ?_) ?_ <;> first | walk_at "ne" | walk_at "at"))
local macro_rules | `(tactic| walk_at "sqt") => `(tactic| first | assumption | (refine L2.SqT.of ?_; walk_at "at"))
local macro_rules | `(tactic| walk_at "ty") => `(tactic| first | exact R.tyN | exact R.tyB | exact R.tyI | exact R.tyS | (refine R.tyT (xs := ?xs) ?h; case h => walk_at "at") | (refine R.tyL (xs := ?xs) ?h; case h => walk_at "at"))
local macro_rules | `(tactic| walk_at "kit") => `(tactic| first | exact R.kit_NoneType_tuple | exact R.kit_NoneType_list | exact R.kit_NoneType_bool | exact R.kit_NoneType_str | exact R.kit_NoneType_int | exact R.kit_bool_tuple | exact R.kit_bool_list | exact R.kit_bool_bool | exact R.kit_bool_str | exact R.kit_bool_int | exact R.kit_int_tuple | exact R.kit_int_list | exact R.kit_int_bool | exact R.kit_int_str | exact R.kit_int_int | exact R.kit_str_tuple | exact R.kit_str_list | exact R.kit_str_bool | exact R.kit_str_str | exact R.kit_str_int | exact R.kit_tuple_tuple | exact R.kit_tuple_list | exact R.kit_tuple_bool | exact R.kit_tuple_str | exact R.kit_tuple_int | exact R.kit_list_tuple | exact R.kit_list_list | exact R.kit_list_bool | exact R.kit_list_str | exact R.kit_list_int)
local macro_rules | `(tactic| walk_at "sz") => `(tactic| first | assumption | (refine Nat.le_trans ?_ (show 1000 ≤ PySem.sizeLine by decide); omega) | decide)
local macro_rules | `(tactic| walk_at "szl") => `(tactic| first | assumption | exact Nat.le_of_lt (L2.small1000 (by omega)) | decide | decide +kernel)
local macro_rules | `(tactic| walk_at "sys") => `(tactic| first | assumption | exact KN.SysAt.same (by assumption) (by assumption))
local macro_rules | `(tactic| walk_at "dk") => `(tactic| first | exact R.rowsS _ _ | exact R.rowsM _ _)
local macro_rules | `(tactic| walk_at "sqa") => `(tactic| first | assumption | exact R.SeqA.same (by assumption) (by assumption) | exact R.SeqA.new (by assumption) (by assumption) | (exact Or.inl (by walk_at "at")) | (exact Or.inr (by walk_at "at")))
local macro_rules | `(tactic| walk_at "ix") => `(tactic| first | rfl | (exact L2.atI_nat (by assumption)) | assumption)
local macro_rules | `(tactic| walk_at "cond") => `(tactic| first
  | exact Or.inl (by decide) | exact Or.inr (by decide) | exact Or.inl ⟨by omega, by omega⟩ | exact Or.inr ⟨by omega, by omega⟩
  | (constructor <;> omega) | (show _ ≠ _; omega) | decide | omega)
local macro_rules | `(tactic| walk_at "r1") => `(tactic| first
  | with_reducible refine R.seq ?_ | with_reducible refine R.asg ?_ | with_reducible refine R.ifs ?_ | with_reducible refine R.ret ?_ | with_reducible refine R.retN ?_ | with_reducible refine R.drop ?_ | with_reducible refine R.next ?_
  | with_reducible refine R.op ?_ | ((with_reducible refine R.var (v := ?v) ?h ?q); case h => rfl) | with_reducible refine R.c ?_ | with_reducible refine R.tst ?_ | with_reducible refine R.tb_ ?_ | with_reducible refine R.ex ?_
  | with_reducible refine R.i0 ?_ | with_reducible refine R.eqI ?_ | with_reducible refine R.neI ?_ | ((with_reducible refine R.ic ?_ ?_); · walk_at "cond") | with_reducible refine R.u0 ?_ | with_reducible refine R.un ?_
  | ((with_reducible refine R.eq ?_ ?_); · rfl) | ((with_reducible refine R.ne ?_ ?_); · rfl)
  | with_reducible refine R.and_ ?_ | with_reducible refine R.or_ ?_ | with_reducible refine R.not_ ?_ | with_reducible refine R.ife ?_ | with_reducible refine R.chain ?_
  | with_reducible refine R.cons ?_ | with_reducible refine R.nil ?_ | with_reducible refine R.call ?_ | with_reducible refine R.cb ?_ | with_reducible refine R.bm ?_
  | with_reducible refine R.gname ?_ | with_reducible refine R.gsub ?_ | with_reducible refine R.gnil ?_ | with_reducible refine R.gcons ?_ | with_reducible refine R.yes ?_
  | with_reducible refine R.int1 ?_ | ((with_reducible refine R.lenL (xs := ?xs) ?h ?q); case h => walk_at "at")
  | ((with_reducible refine R.ixL (xs := ?xs) (v := ?v) ?h ?e ?q); (case h => walk_at "at"); (case e => walk_at "ix"))
  | ((with_reducible refine R.setL (xs := ?xs) (n := ?n) ?h ?e ?q); (case h => walk_at "at"); (case e => rfl))
  | ((with_reducible refine R.append (xs := ?xs) ?h ?e ?q); (case h => walk_at "at"); (case e => walk_at "cond"))
  | with_reducible refine R.is_ ?_ | with_reducible refine R.isnot ?_ | with_reducible refine R.andV ?_ | with_reducible refine R.orV ?_ | with_reducible refine R.notV ?_
  | ((with_reducible refine R.isi (s := ?s) (b := ?b) ?ty ?h ?q); (case ty => walk_at "ty"); (case h => walk_at "kit"))
  | ((with_reducible refine R.addS ?h ?q); (case h => walk_at "sz")) | with_reducible refine R.max2 ?_ | with_reducible refine R.min2 ?_
  | ((with_reducible refine R.lenStr ?h ?q); (case h => walk_at "szl")) | ((with_reducible refine R.ixS (n := ?n) ?h ?e ?q); (case h => walk_at "szl"); (case e => walk_at "ix"))
  | ((with_reducible refine R.tyl (xs := ?xs) ?h ?q); (case h => walk_at "at")) | with_reducible refine R.itlist ?_ | with_reducible refine R.ittup ?_ | with_reducible refine R.m1 ?_ | with_reducible refine R.m1s ?_ | with_reducible refine R.leS ?_ | with_reducible refine R.itstr ?_ | with_reducible refine R.itstrE ?_ | with_reducible refine R.lc ?_ | with_reducible refine R.lc2 ?_ | with_reducible refine R.ckw ?_ | with_reducible refine R.par ?_ | with_reducible refine R.parE ?_ | with_reducible refine R.itrev ?_ | with_reducible refine R.dsetd ?_ | with_reducible refine R.dnotin_ ?_ | with_reducible refine R.for_ ?_ | ((with_reducible refine R.all_ (bs := ?bs) ?h ?q); (case h => walk_at "at"))
  | with_reducible refine R.rng1 ?_ | ((with_reducible refine R.rngE ?h ?q); (case h => (constructor <;> omega)))
  | ((with_reducible refine R.lenT (xs := ?xs) ?h ?q); (case h => walk_at "sqt")) | ((with_reducible refine R.ixT (xs := ?xs) (v := ?v) ?h ?e ?q); (case h => walk_at "sqt"); (case e => walk_at "ix"))
  | ((refine R.itlE (xs := ?xs) ?h ?q); (case h => walk_at "at")) | ((refine R.ittE (xs := ?xs) ?h ?q); (case h => walk_at "at"))
  | ((refine R.gseq (xs := ?xs) ?h ?e ?q); (case h => walk_at "sqa"); (case e => rfl)) | ((refine R.ixA (xs := ?xs) (v := ?v) ?h ?e ?q); (case h => walk_at "sqa"); (case e => walk_at "ix")) | ((refine R.lenA (xs := ?xs) ?h ?q); (case h => walk_at "sqa"))
  | ((with_reducible refine R.gtup (xs := ?xs) ?h ?e ?q); (case h => walk_at "sqt"); (case e => rfl))
  | with_reducible refine R.din_ ?_ | with_reducible refine R.dput_ ?_
  | with_reducible refine R.dget2_ ?_ | ((with_reducible refine R.aug_ (x := ?x) ?h ?q); case h => rfl) | with_reducible refine R.ipI_ ?_
  | with_reducible refine R.rng2 ?_ | ((with_reducible refine R.rngE2 ?h ?q); (case h => (refine ⟨?_, ?_, ?_, ?_⟩ <;> omega)))
  | with_reducible refine R.brk ?_ | with_reducible refine R.intB ?_ | with_reducible refine R.meth_ ?_ | ((refine KN.methS (rs := ?rs) (ms := ?ms) ?h (fun _ _ _ _ => rfl) ?q); case h => walk_at "sys")
  | with_reducible refine R.sl_ ?_ | with_reducible refine R.np_ ?_ | with_reducible refine R.pt_ ?_ | with_reducible refine R.ptE ?_ | with_reducible refine R.dget_ ?_ | with_reducible refine R.revL_ ?_
  | ((refine R.dgetS (kvs := ?kvs) (v := ?v) ?h ?e ?q); (case h => walk_at "at"); (case e => walk_at "dk"))
  | with_reducible refine R.sfld ?_ | with_reducible refine R.fld_ ?_ | with_reducible refine R.dc ?_
  | with_reducible refine R.dget1_ ?_
  | with_reducible refine R.itseq ?_ | with_reducible refine R.itenum ?_
  | with_reducible refine R.itT ?_ | with_reducible refine R.itF ?_ | with_reducible refine R.itNT ?_ | with_reducible refine R.itNF ?_
  | (with_reducible refine R.tup ?_) | (with_reducible refine R.lst ?_))
local macro_rules | `(tactic| walk_at "rd") => `(tactic| (repeat (first | walk_at "r1" | (dsimp only [Int.reduceToNat, List.set_cons_succ, List.set_cons_zero, List.length_cons, List.length_nil, List.nil_append, List.cons_append, List.append_nil]))))
local macro_rules | `(tactic| walk_at "go") => `(tactic| (rw [R.start_eq]; dsimp only [R.startE, List.map_nil]; walk_at "rd"))
namespace KN
open PySem L2 SX R
open C8 (Cal Def cal0 pe_c pe_gc fnScope fnBody pss_cut)
section
variable {P : Program} {w : World} {K : PySem.W.Frag} {mg : Str → Option Value} {base : Heap}
abbrev sDrawn : Stmt := top 28
theorem scDrawn : FnScope ["pool", "simple", "k", "multipliers", "value", "count", "rest", "row"] ["pool"] (fnScope sDrawn) := ⟨rfl, rfl, rfl, by decide +kernel, rfl, by decide +kernel, by decide +kernel⟩
theorem any_none : ∀ ms : List MR, ((ms.map fun r => r.c.isNone).any id) = decide (0 < (ms.filter fun r => r.c.isNone).length)
  | [] => rfl
  | a :: ms => by
    rw [List.map_cons, List.any_cons, any_none ms]
    cases h : a.c.isNone with
    | true => rw [List.filter_cons_of_pos (by exact h)]; simp
    | false => rw [List.filter_cons_of_neg (by rw [h]; exact Bool.false_ne_true)]; simp
structure MOk (r : MR) : Prop where
  v0 : 2 ≤ r.v
  v1 : r.v ≤ 31
  c : ∀ c, r.c = some c → 1 ≤ c ∧ c ≤ 40
  r0 : 0 ≤ r.r
  r1 : r.r < r.v
theorem c_drawn (Z : Zs mg) (c_take : Cal P w K mg base 2 "_law_take" spTake []) (c_word : Cal P w K mg base 3 "_law_word" spWord []) {f : Addr} {fd : FuncData} (F : Def K mg "_law_drawn" sDrawn f fd) (b : Binds K fd ["pool"] []) : Cal P w K mg base 4 "_law_drawn" (spDrawn 30 31 40) [] := by
  refine cal0 F b .nil scDrawn (fun vs H Q E h => ?_) (fun cdv A outer s H vs Q E hr h => ?_)
  · obtain ⟨p, l, cs, rfl, _⟩ := h
    rfl
  · obtain ⟨p, l, cs, rfl, hP, hl, k⟩ := h
    refine ⟨_, pss_cons (ps_set (i := 1) scDrawn.nd rfl (Or.inl rfl) (pe_lst pa_nil))
      (pss_cut (ps_for PassesOwn.never rfl (pi_range1 (by rfl) Z.range (pa_cons (pe_c c_take hr (by omega) (by rfl) (pa_cons (pv 0) (pa_cons pe_int pa_nil))) pa_nil)) (pg_name (i := 2) scDrawn.nd rfl (Or.inl rfl))
        (pss_one (ps_expr (kBM K (pe_bm PySem.F.plainAttrs_list PySem.F.slot_list_append PySem.F.type_list_append mt_append (pv 1) (pa_cons (pe_tup (pa_cons (pe_c c_word hr (by omega) (by rfl) (pa_cons (pv 0) (pa_cons (pv 2) pa_nil))) (pa_cons (pe_op op_add pe_int (pe_c c_take hr (by omega) (by rfl) (pa_cons (pv 0) (pa_cons (pe_ix (kIxT K) (pe_tup (pa_cons pe_int (pa_cons pe_int (pa_cons pe_int pa_nil)))) (pe_c c_take hr (by omega) (by rfl) (pa_cons (pv 0) (pa_cons pe_int pa_nil))) (fun _ _ => rfl)) pa_nil)))) pa_nil))) pa_nil))))))
      (pss_cons (ps_set (i := 3) scDrawn.nd rfl (Or.inl rfl) (pe_lst pa_nil))
      (pss_cons (ps_for PassesOwn.never rfl (pi_range1 (by rfl) Z.range (pa_cons (pe_c c_take hr (by omega) (by rfl) (pa_cons (pv 0) (pa_cons pe_int pa_nil))) pa_nil)) (pg_name (i := 2) scDrawn.nd rfl (Or.inl rfl))
        (pss_cons (ps_set (i := 4) scDrawn.nd rfl (Or.inl rfl) (pe_op op_add pe_int (pe_c c_take hr (by omega) (by rfl) (pa_cons (pv 0) (pa_cons (pe_ix (kIxT K) (pe_tup (pa_cons pe_int (pa_cons pe_int (pa_cons pe_int pa_nil)))) (pe_c c_take hr (by omega) (by rfl) (pa_cons (pv 0) (pa_cons pe_int pa_nil))) (fun _ _ => rfl)) pa_nil)))))
      (pss_cons (ps_set (i := 5) scDrawn.nd rfl (Or.inl rfl) (pe_op op_add pe_int (pe_c c_take hr (by omega) (by rfl) (pa_cons (pv 0) (pa_cons (pe_ix (kIxT K) (pe_tup (pa_cons pe_int (pa_cons pe_int (pa_cons pe_int pa_nil)))) (pe_c c_take hr (by omega) (by rfl) (pa_cons (pv 0) (pa_cons pe_int pa_nil))) (fun _ _ => rfl)) pa_nil)))))
      (pss_cut (ps_if (PW.pt (pw_and (pt_cmpR op_eq (pe_c c_take hr (by omega) (by rfl) (pa_cons (pv 0) (pa_cons pe_int pa_nil))) pe_int (nomark _)) (pw_and1 (pt_not (pt_val (pe_callB (kAny K) (by rfl) Z.any (by decide +kernel) (pa_cons (pe_lc (own := [("row", 7)]) (g := gName 7) (tt := tYes) rfl scDrawn.nd (kiL K (pv 3)) (blkOk_by (own := [("row", 7)]) (N := ["pool", "simple", "k", "multipliers", "value", "count", "rest", "row"]) (sc := fnScope sDrawn) (by decide +kernel)) (fun _ _ _ _ _ => (pg_name (i := 7) scDrawn.nd rfl (Or.inl rfl))) (fun _ _ _ _ _ => pts_nil) (fun _ _ _ _ _ => pe_cmpR oIs (pe_ix (kIxT K) (pv 7) pe_int (fun _ _ => rfl)) pe_non (nomark _))) pa_nil)))))))
        (pss_one (ps_set (i := 5) scDrawn.nd rfl (Or.inl rfl) pe_non))
        (pss_nil))
      (pss_cons (ps_set (i := 6) scDrawn.nd rfl (Or.inl rfl) (pe_ix (kIxT K) (pe_tup (pa_cons pe_int (pa_cons (pe_op op_sub (pv 4) pe_int) (pa_cons (pe_c c_take hr (by omega) (by rfl) (pa_cons (pv 0) (pa_cons (pv 4) pa_nil))) pa_nil)))) (pe_c c_take hr (by omega) (by rfl) (pa_cons (pv 0) (pa_cons pe_int pa_nil))) (fun _ _ => rfl)))
      (pss_one (ps_expr (kBM K (pe_bm PySem.F.plainAttrs_list PySem.F.slot_list_append PySem.F.type_list_append mt_append (pv 3) (pa_cons (pe_tup (pa_cons (pe_c c_word hr (by omega) (by rfl) (pa_cons (pv 0) (pa_cons (pe_op op_add pe_int (pv 2)) pa_nil))) (pa_cons (pv 4) (pa_cons (pv 5) (pa_cons (pe_cmpR op_eq (pe_c c_take hr (by omega) (by rfl) (pa_cons (pv 0) (pa_cons pe_int pa_nil))) pe_int (nomark _)) (pa_cons (pv 6) pa_nil)))))) pa_nil))))))))))
      (pss_one (ps_ret (pe_disp (pps_cons pe_str (pv 1) (pps_cons pe_str (pv 3) pps_nil)) rfl rfl (by intro h; cases h) (by decide))))))), ?_⟩
    walk_at "go"
    refine ⟨by decide, fun s hs => ?_⟩
    have R0 := DL.of hP hl SameBut.refl hP hs
    generalize upd H s (.lst []) = H1 at R0
    walk_at "rd"
    refine R.cut (fun σ' H' => ∃ (kv : Option V) (rs : List SR) (xs : List V), σ' = [some (.ref p), some (.ref s), kv, none, none, none, none, none] ∧
      DL H H' p l s cs xs (rs.map srV) ∧ rs.length ≤ 5 ∧ (∀ (i : Nat) (r : SR), rs[i]? = some r → WordN cs (i : Nat) r.w) ∧ ∀ r ∈ rs, 1 ≤ r.v ∧ r.v ≤ 30) ?_ ?_
    · walk_at "rd"
      refine r_take' R0.P (by omega) (by omega) (fun H2 n e2 P2 n0 n1 => ?_)
      have R2 := R0.take e2 P2
      walk_at "rd"
      refine for_it walk_range (fun i σ' H' => ∃ (kv : Option V) (rs : List SR) (xs : List V), σ' = [some (.ref p), some (.ref s), kv, none, none, none, none, none] ∧
        DL H H' p l s cs xs (rs.map srV) ∧ rs.length = i ∧ (∀ (i : Nat) (r : SR), rs[i]? = some r → WordN cs (i : Nat) r.w) ∧ ∀ r ∈ rs, 1 ≤ r.v ∧ r.v ≤ 30) ⟨none, [], [], rfl, R2, rfl, (fun i r h => nomatch h), fun r h => nomatch h⟩ (fun _ _ _ _ _ => trivial) ?_ ?_
      · rintro i x σ' H3 H3' hi ⟨kv, rs, xs, rfl, R3, hlen, hw, hv⟩ ⟨rfl, rfl⟩
        have hs3 := R3.hs
        walk_at "rd"
        refine r_word R3.P R3.hl (by omega) (by omega) (fun H4 z e4 P4 wz => ?_)
        have R4 := R3.take e4 P4
        walk_at "rd"
        refine ⟨by decide, fun t ht => R.gen ht fun H5 s5 ht5 => ?_⟩
        have tp := (R4.P.nep ht).1
        have R5 := R4.same s5
        walk_at "rd"
        refine r_take' R5.P (by decide) (by decide) (fun H6 d6 e6 P6 l6 u6 => ?_)
        have R6 := R5.take e6 P6
        have ht6 := e6 _ _ tp ht5
        obtain ⟨v, hv1, ev⟩ := atI_in (xs := [V.int 4, .int 9, .int 30]) l6 u6
        obtain ⟨h4, rfl, h40, h41⟩ : ∃ h4 : Int, v = .int h4 ∧ 4 ≤ h4 ∧ h4 ≤ 30 := by
          simp only [List.mem_cons, List.not_mem_nil, or_false] at hv1
          rcases hv1 with rfl | rfl | rfl <;> exact ⟨_, rfl, by decide, by decide⟩
        walk_at "rd"
        refine r_take' R6.P (by omega) (by omega) (fun H7 d7 e7 P7 l7 u7 => ?_)
        have R7 := R6.take e7 P7
        walk_at "rd"
        refine ⟨by decide, fun a ha => R.gen ha fun H8 s8 ha8 => ?_⟩
        have R8 := R7.same s8
        have hxl : xs.length < 100 := by have := R8.ts.len; rw [List.length_map] at this; omega
        walk_at "rd"
        refine R.append R8.hs (small1000 (by omega)) ?_
        walk_at "rd"
        rw [Int.zero_add] at wz
        refine ⟨_, rs ++ [⟨z, 1 + d7⟩], xs ++ [.ref a], rfl, ?_, by simp [hlen], fun j r hr => ?_, fun r hr => ?_⟩
        · rw [List.map_append]
          exact R8.app ha8
        · by_cases h : j < rs.length
          · rw [List.getElem?_append_left h] at hr
            exact hw j r hr
          · have hj : j = rs.length := by
              have := (List.getElem?_eq_some_iff.mp hr).1
              rw [List.length_append] at this
              simp only [List.length_cons, List.length_nil] at this
              omega
            subst hj
            rw [List.getElem?_append_right (Nat.le_refl _), Nat.sub_self] at hr
            cases hr
            rw [hlen]
            exact wz
        · rcases List.mem_append.mp hr with h | h
          · exact hv r h
          · rw [List.mem_singleton.mp h]
            exact ⟨by show 1 ≤ 1 + d7; omega, by show 1 + d7 ≤ 30; omega⟩
      · rintro σ' H3 ⟨kv, rs, xs, rfl, R3, hlen, hw, hv⟩
        exact ⟨kv, rs, xs, rfl, R3, by omega, hw, hv⟩
    · rintro σ' H3 ⟨kv, rs, xs, rfl, R3, hlen, hw, hv⟩
      walk_at "rd"
      refine ⟨by decide, fun m hm => ?_⟩
      have M0 := DM.of R3 hm
      generalize upd H3 m (.lst []) = H4 at M0
      walk_at "rd"
      refine r_take' M0.R.P (by omega) (by omega) (fun H5 n e5 P5 n0 n1 => ?_)
      have M5 := M0.take e5 P5
      walk_at "rd"
      refine for_it walk_range (fun i σ' H' => ∃ (kv vv cv rv : Option V) (ms : List MR) (ys : List V), σ' = [some (.ref p), some (.ref s), kv, some (.ref m), vv, cv, rv, none] ∧
        DM H H' p l s m cs xs (rs.map srV) ys (ms.map mrV) ∧ ms.length = i ∧ (∀ (i : Nat) (r : MR), ms[i]? = some r → WordN cs (10 + (i : Nat)) r.w) ∧ (∀ r ∈ ms, MOk r) ∧ (ms.filter fun r => r.c.isNone).length ≤ 1)
        ⟨kv, none, none, none, [], [], rfl, M5, rfl, (fun i r h => nomatch h), (fun r h => nomatch h), Nat.zero_le _⟩ (fun _ _ _ _ _ => trivial) ?_ ?_
      · rintro i x σ' H6 H6' hi ⟨kv, vv, cv, rv, ms, ys, rfl, M6, hml, hmw, hmo, hone⟩ ⟨rfl, rfl⟩
        walk_at "rd"
        refine ⟨by decide, fun t ht => R.gen ht fun H7 s7 ht7 => ?_⟩
        have tp := (M6.R.P.nep ht).1
        have M7 := M6.same s7
        walk_at "rd"
        refine r_take' M7.R.P (by omega) (by omega) (fun H8 d8 e8 P8 l8 u8 => ?_)
        have M8 := M7.take e8 P8
        have ht8 := e8 _ _ tp ht7
        obtain ⟨v, hv1, ev⟩ := atI_in (xs := [V.int 3, .int 9, .int 30]) l8 u8
        obtain ⟨h4, rfl, h40, h41⟩ : ∃ h4 : Int, v = .int h4 ∧ 3 ≤ h4 ∧ h4 ≤ 30 := by
          simp only [List.mem_cons, List.not_mem_nil, or_false] at hv1
          rcases hv1 with rfl | rfl | rfl <;> exact ⟨_, rfl, by decide, by decide⟩
        walk_at "rd"
        refine r_take' M8.R.P (by omega) (by omega) (fun H9 d9 e9 P9 l9 u9 => ?_)
        have M9 := M8.take e9 P9
        walk_at "rd"
        refine ⟨by decide, fun t2 ht2 => R.gen ht2 fun H10 s10 ht10 => ?_⟩
        have tp2 := (M9.R.P.nep ht2).1
        have M10 := M9.same s10
        walk_at "rd"
        refine r_take' M10.R.P (by omega) (by omega) (fun H11 d11 e11 P11 l11 u11 => ?_)
        have M11 := M10.take e11 P11
        have ht11 := e11 _ _ tp2 ht10
        obtain ⟨v', hv1', ev'⟩ := atI_in (xs := [V.int 3, .int 9, .int 40]) l11 u11
        obtain ⟨h5, rfl, h50, h51⟩ : ∃ h4 : Int, v' = .int h4 ∧ 3 ≤ h4 ∧ h4 ≤ 40 := by
          simp only [List.mem_cons, List.not_mem_nil, or_false] at hv1'
          rcases hv1' with rfl | rfl | rfl <;> exact ⟨_, rfl, by decide, by decide⟩
        walk_at "rd"
        refine r_take' M11.R.P (by omega) (by omega) (fun H12 d12 e12 P12 l12 u12 => ?_)
        have M12 := M11.take e12 P12
        walk_at "rd"
        refine R.cut (fun σ' H' => ∃ c : Option Int, σ' = [some (.ref p), some (.ref s), some (.int (0 + (i : Nat))), some (.ref m), some (.int (2 + d9)), some (ocnt c), rv, none] ∧
          DM H H' p l s m cs xs (rs.map srV) ys (ms.map mrV) ∧ (∀ c', c = some c' → 1 ≤ c' ∧ c' ≤ 40) ∧ (c = none → (ms.filter fun r => r.c.isNone).length = 0)) ?_ ?_
        · walk_at "rd"
          refine r_take' M12.R.P (by omega) (by omega) (fun H13 d13 e13 P13 l13 u13 => ?_)
          have M13 := M12.take e13 P13
          have hm13 := M13.hm
          have stay : ∀ G, Same H13 G → ∃ c : Option Int, [some (V.ref p), some (.ref s), some (.int (0 + (i : Nat))), some (.ref m), some (.int (2 + d9)), some (.int (1 + d12)), rv, none] = [some (.ref p), some (.ref s), some (.int (0 + (i : Nat))), some (.ref m), some (.int (2 + d9)), some (ocnt c), rv, none] ∧
            DM H G p l s m cs xs (rs.map srV) ys (ms.map mrV) ∧ (∀ c', c = some c' → 1 ≤ c' ∧ c' ≤ 40) ∧ (c = none → (ms.filter fun r => r.c.isNone).length = 0) :=
            fun G g => ⟨some (1 + d12), rfl, M13.same g, fun c' h => by cases h; omega, fun h => nomatch h⟩
          walk_at "rd"
          refine it (fun h1 => ?_) (fun h1 => ?_)
          · walk_at "rd"
            intro D hD
            have hyl : ys.length = ms.length := by have := M13.tm.len; rwa [List.length_map] at this
            refine lc_it (walk_list (K := K) (a := m) (xs := ys)) (fun j H' => Same H13 H' ∧ H' D = some (.lst (((ms.take j).map fun r => r.c.isNone).map V.bl))) ⟨same_new (Same.refl _) hD, upd_same⟩ (fun j H' _ hh => SqL.of (hh.1 _ _ hm13)) ?_ ?_
            · rintro j x H14 H14' hj ⟨s14, hD14⟩ ⟨rfl, hx⟩
              have hj' : j < ms.length := by omega
              have hmj : ms[j]? = some ms[j] := List.getElem?_eq_getElem hj'
              obtain ⟨a, hya, ha⟩ := M13.tm.get j (mrV ms[j]) (by rw [List.getElem?_map, hmj]; rfl)
              rw [hya] at hx
              cases hx
              have ha14 := s14 _ _ ha
              have et : ms.take (j + 1) = ms.take j ++ [ms[j]] := by rw [List.take_add_one, hmj]; rfl
              refine R.gname ⟨rfl, ?_⟩
              walk_at "rd"
              refine ⟨_, hD14, small1000 (by rw [List.length_map, List.length_map, List.length_take]; omega), same_put s14 hD, ?_⟩
              rw [upd_same, et, List.map_append, List.map_append]
              have en : decide (ocnt ms[j].c = V.non) = ms[j].c.isNone := by
                cases h : ms[j].c with
                | none => rfl
                | some c => rfl
              rw [en]
              rfl
            · rintro H14 ⟨s14, hD14⟩
              rw [hyl, List.take_of_length_le (Nat.le_refl _)] at hD14
              walk_at "rd"
              refine R.any_ hD14 ?_
              refine ⟨_, rfl, ?_⟩
              have ea := any_none ms
              rw [ea]
              walk_at "rd"
              refine itn (fun h2 => ?_) (fun h2 => ?_)
              · walk_at "rd"
                exact ⟨none, rfl, M13.same s14, (fun c' h => nomatch h), fun _ => by omega⟩
              · walk_at "rd"
                exact stay _ s14
          · walk_at "rd"
            exact stay _ (Same.refl _)
        · rintro σ' H13 ⟨c, rfl, M13, hc1, hc2⟩
          walk_at "rd"
          refine r_take' M13.R.P (by omega) (by omega) (fun H14 d14 e14 P14 l14 u14 => ?_)
          have M14 := M13.take e14 P14
          walk_at "rd"
          refine ⟨by decide, fun t3 ht3 => R.gen ht3 fun H15 s15 ht15 => ?_⟩
          have tp3 := (M14.R.P.nep ht3).1
          have M15 := M14.same s15
          walk_at "rd"
          refine r_take' M15.R.P (by omega) (by omega) (fun H16 d16 e16 P16 l16 u16 => ?_)
          have M16 := M15.take e16 P16
          have ht16 := e16 _ _ tp3 ht15
          obtain ⟨v'', hv2, ev2⟩ := atI_in (xs := [V.int 0, .int (2 + d9 - 1), .int d14]) l16 u16
          obtain ⟨rr, rfl, rr0, rr1⟩ : ∃ rr : Int, v'' = .int rr ∧ 0 ≤ rr ∧ rr < 2 + d9 := by
            simp only [List.mem_cons, List.not_mem_nil, or_false] at hv2
            rcases hv2 with rfl | rfl | rfl
            · exact ⟨_, rfl, by omega, by omega⟩
            · exact ⟨_, rfl, by omega, by omega⟩
            · exact ⟨_, rfl, by omega, by omega⟩
          have hm16 := M16.hm
          walk_at "rd"
          refine r_word M16.R.P M16.R.hl (by omega) (by omega) (fun H17 z e17 P17 wz => ?_)
          have M17 := M16.take e17 P17
          walk_at "rd"
          refine r_take' M17.R.P (by omega) (by omega) (fun H18 d18 e18 P18 l18 u18 => ?_)
          have M18 := M17.take e18 P18
          walk_at "rd"
          refine ⟨by decide, fun a ha => R.gen ha fun H19 s19 ha19 => ?_⟩
          have M19 := M18.same s19
          have hyl : ys.length = ms.length := by have := M19.tm.len; rwa [List.length_map] at this
          walk_at "rd"
          refine R.append M19.hm (small1000 (by omega)) ?_
          walk_at "rd"
          rw [Int.zero_add] at wz
          have gw := wz.good
          refine ⟨some (.int (0 + (i : Nat))), some (.int (2 + d9)), some (ocnt c), some (.int rr), ms ++ [⟨z, 2 + d9, c, decide (d18 = 1), rr⟩], ys ++ [.ref a], rfl, ?_, by simp [hml], fun j r hr => ?_, fun r hr => ?_, ?_⟩
          · rw [List.map_append]
            exact M19.app ha19
          · by_cases h : j < ms.length
            · rw [List.getElem?_append_left h] at hr
              exact hmw j r hr
            · have hj : j = ms.length := by
                have := (List.getElem?_eq_some_iff.mp hr).1
                rw [List.length_append] at this
                simp only [List.length_cons, List.length_nil] at this
                omega
              subst hj
              rw [List.getElem?_append_right (Nat.le_refl _), Nat.sub_self] at hr
              cases hr
              rw [hml]
              exact wz
          · rcases List.mem_append.mp hr with h | h
            · exact hmo r h
            · rw [List.mem_singleton.mp h]
              exact ⟨by show 2 ≤ 2 + d9; omega, by show 2 + d9 ≤ 31; omega, hc1, rr0, rr1⟩
          · rw [List.filter_append, List.length_append]
            cases c with
            | none => have := hc2 rfl; rw [this]; exact Nat.le_refl _
            | some c' => exact hone
      · rintro σ' H6 ⟨kv, vv, cv, rv, ms, ys, rfl, M6, hml, hmw, hmo, hone⟩
        walk_at "rd"
        refine disp fun t ht => R.gen ht fun H7 s7 ht7 => ?_
        have M7 := M6.same s7
        have hs7 := M7.R.hs
        have hm7 := M7.hm
        unfold tPairs
        walk_at "rd"
        unfold tPairs
        walk_at "rd"
        unfold tPairs
        refine ⟨ht7, rowsKs s m, rfl, by show 2 ≤ 15; decide, ?_⟩
        rw [rowsMerge]
        have sb7 := M7.R.sb
        have t0 : H t = none := M6.R.nil0 ht
        obtain ⟨tp, tl⟩ := M6.R.P.nep ht
        have ts' : s ≠ t := (ne_of_none M6.R.hs ht)
        have tm' : m ≠ t := (ne_of_none M6.hm ht)
        refine k _ t rs ms (sb7.put' t0) (M7.R.P.put tp tl) ⟨s, m, xs, ys, upd_same, by rw [upd_ne ts']; exact hs7, M7.R.ts.keep (fun a d h => ?_), by rw [upd_ne tm']; exact hm7, M7.tm.keep (fun a d h => ?_)⟩ ⟨⟨?_, ?_, ?_, ?_, ?_, hone⟩, fun r hr => (hv r hr).2, fun r hr => (hmo r hr).v1, fun r hr c hc => ((hmo r hr).c c hc).2, by omega, fun z hz => ?_⟩
        · rw [upd_ne (ne_of h ht7 (by intro z; cases z))]; exact h
        · rw [upd_ne (ne_of h ht7 (by intro z; cases z))]; exact h
        · intro r hr
          obtain ⟨i, hi, he⟩ := List.mem_iff_getElem.mp hr
          exact ⟨(hw i r (by rw [List.getElem?_eq_getElem hi, he])).good, (hv r hr).1, by have := (hv r hr).2; omega⟩
        · intro r hr
          obtain ⟨i, hi, he⟩ := List.mem_iff_getElem.mp hr
          have o := hmo r hr
          have o1 := o.v1
          have o2 := o.r1
          have o3 := o.v0
          exact ⟨(hmw i r (by rw [List.getElem?_eq_getElem hi, he])).good, o.v0, by omega, fun c hc => ⟨(o.c c hc).1, by have := (o.c c hc).2; omega, by
            have := (o.c c hc).2
            have q : c * r.v ≤ 40 * 31 := Int.mul_le_mul this o1 (by omega) (by omega)
            omega⟩, o.r0, o.r1⟩
        · refine nodupW (cs := cs) (fun i => if i < rs.length then (i : Nat) else 10 + ((i - rs.length : Nat) : Int)) (fun i z hz => ?_) (fun i j hij hj => ?_)
          · by_cases h : i < rs.length
            · rw [if_pos h]
              rw [List.getElem?_append_left (by rw [List.length_map]; exact h), List.getElem?_map] at hz
              cases e : rs[i]? with
              | none => rw [e] at hz; cases hz
              | some r => rw [e] at hz; cases hz; exact hw i r e
            · rw [if_neg h]
              rw [List.getElem?_append_right (by rw [List.length_map]; omega), List.getElem?_map, List.length_map] at hz
              cases e : ms[i - rs.length]? with
              | none => rw [e] at hz; cases hz
              | some r => rw [e] at hz; cases hz; exact hmw _ r e
          · rw [List.length_append, List.length_map, List.length_map] at hj
            split <;> split <;> omega
        · omega
        · omega
        · rcases List.mem_append.mp hz with h | h
          · obtain ⟨r, hr, rfl⟩ := List.mem_map.mp h
            obtain ⟨i, hi, he⟩ := List.mem_iff_getElem.mp hr
            exact (hw i r (by rw [List.getElem?_eq_getElem hi, he])).fst
          · obtain ⟨r, hr, rfl⟩ := List.mem_map.mp h
            obtain ⟨i, hi, he⟩ := List.mem_iff_getElem.mp hr
            exact (hmw i r (by rw [List.getElem?_eq_getElem hi, he])).fst
end
end KN
end
section
set_option Elab.async false
set_option linter.all false
set_option maxRecDepth 100000
set_option maxHeartbeats 4000000
set_option pp.maxSteps 1500
set_option pp.deepTerms false
local macro_rules | `(tactic| walk_at "ne") => `(tactic| first
  | assumption | (apply Ne.symm; assumption)
  | exact R.ne_new (by assumption) | exact (R.ne_new (by assumption)).symm
  | exact L2.ne_of_none (by assumption) (by assumption) | exact (L2.ne_of_none (by assumption) (by assumption)).symm
  | exact L2.ne_of_none (by assumption) (R.free_new (by assumption)) | exact (L2.ne_of_none (by assumption) (R.free_new (by assumption))).symm)
local macro_rules | `(tactic| walk_at "at") => `(tactic| first
  | assumption | exact L2.upd_same
  | (refine R.sb (H := ?H) (p := ?p) ?e ?n ?h; (case e => assumption); (case n => walk_at "ne"); (case h => walk_at "at"))
  | (refine R.sm (H := ?H) ?e ?h; (case e => assumption); (case h => walk_at "at"))
  | (refine Eq.trans (L2.upd_ne ?_) ?_ <;> first | walk_at "ne" | walk_at "at"))
local macro_rules | `(tactic| walk_at "sqt") => `(tactic| first | assumption | (refine L2.SqT.of ?_; walk_at "at"))
local macro_rules | `(tactic| walk_at "ty") => `(tactic| first | exact R.tyN | exact R.tyB | exact R.tyI | exact R.tyS | (refine R.tyT (xs := ?xs) ?h; case h => walk_at "at") | (refine R.tyL (xs := ?xs) ?h; case h => walk_at "at"))
local macro_rules | `(tactic| walk_at "kit") => `(tactic| first | exact R.kit_NoneType_tuple | exact R.kit_NoneType_list | exact R.kit_NoneType_bool | exact R.kit_NoneType_str | exact R.kit_NoneType_int | exact R.kit_bool_tuple | exact R.kit_bool_list | exact R.kit_bool_bool | exact R.kit_bool_str | exact R.kit_bool_int | exact R.kit_int_tuple | exact R.kit_int_list | exact R.kit_int_bool | exact R.kit_int_str | exact R.kit_int_int | exact R.kit_str_tuple | exact R.kit_str_list | exact R.kit_str_bool | exact R.kit_str_str | exact R.kit_str_int | exact R.kit_tuple_tuple | exact R.kit_tuple_list | exact R.kit_tuple_bool | exact R.kit_tuple_str | exact R.kit_tuple_int | exact R.kit_list_tuple | exact R.kit_list_list | exact R.kit_list_bool | exact R.kit_list_str | exact R.kit_list_int)
local macro_rules | `(tactic| walk_at "sz") => `(tactic| first | assumption | (refine Nat.le_trans ?_ (show 1000 ≤ PySem.sizeLine by decide); omega) | decide)
local macro_rules | `(tactic| walk_at "szl") => `(tactic| first | assumption | exact Nat.le_of_lt (L2.small1000 (by omega)) | decide | decide +kernel)
local macro_rules | `(tactic| walk_at "sys") => `(tactic| first | assumption | exact KN.SysAt.same (by assumption) (by assumption))
local macro_rules | `(tactic| walk_at "dk") => `(tactic| first | exact R.rowsS _ _ | exact R.rowsM _ _)
local macro_rules | `(tactic| walk_at "sqa") => `(tactic| first | assumption | exact R.SeqA.same (by assumption) (by assumption) | exact R.SeqA.new (by assumption) (by assumption) | (exact Or.inl (by walk_at "at")) | (exact Or.inr (by walk_at "at")))
local macro_rules | `(tactic| walk_at "ix") => `(tactic| first | rfl | (exact L2.atI_nat (by assumption)) | assumption)
local macro_rules | `(tactic| walk_at "cond") => `(tactic| first
  | exact Or.inl (by decide) | exact Or.inr (by decide) | exact Or.inl ⟨by omega, by omega⟩ | exact Or.inr ⟨by omega, by omega⟩
  | (constructor <;> omega) | (show _ ≠ _; omega) | decide | omega)
local macro_rules | `(tactic| walk_at "r1") => `(tactic| first
  | with_reducible refine R.seq ?_ | with_reducible refine R.asg ?_ | with_reducible refine R.ifs ?_ | with_reducible refine R.ret ?_ | with_reducible refine R.retN ?_ | with_reducible refine R.drop ?_ | with_reducible refine R.next ?_
  | with_reducible refine R.op ?_ | ((with_reducible refine R.var (v := ?v) ?h ?q); case h => rfl) | with_reducible refine R.c ?_ | with_reducible refine R.tst ?_ | with_reducible refine R.tb_ ?_ | with_reducible refine R.ex ?_
  | with_reducible refine R.i0 ?_ | with_reducible refine R.eqI ?_ | with_reducible refine R.neI ?_ | ((with_reducible refine R.ic ?_ ?_); · walk_at "cond") | with_reducible refine R.u0 ?_ | with_reducible refine R.un ?_
  | ((with_reducible refine R.eq ?_ ?_); · rfl) | ((with_reducible refine R.ne ?_ ?_); · rfl)
  | with_reducible refine R.and_ ?_ | with_reducible refine R.or_ ?_ | with_reducible refine R.not_ ?_ | with_reducible refine R.ife ?_ | with_reducible refine R.chain ?_
  | with_reducible refine R.cons ?_ | with_reducible refine R.nil ?_ | with_reducible refine R.call ?_ | with_reducible refine R.cb ?_ | with_reducible refine R.bm ?_
  | with_reducible refine R.gname ?_ | with_reducible refine R.gsub ?_ | with_reducible refine R.gnil ?_ | with_reducible refine R.gcons ?_ | with_reducible refine R.yes ?_
  | with_reducible refine R.int1 ?_ | ((with_reducible refine R.lenL (xs := ?xs) ?h ?q); case h => walk_at "at")
  | ((with_reducible refine R.ixL (xs := ?xs) (v := ?v) ?h ?e ?q); (case h => walk_at "at"); (case e => walk_at "ix"))
  | ((with_reducible refine R.setL (xs := ?xs) (n := ?n) ?h ?e ?q); (case h => walk_at "at"); (case e => rfl))
  | ((with_reducible refine R.append (xs := ?xs) ?h ?e ?q); (case h => walk_at "at"); (case e => walk_at "cond"))
  | with_reducible refine R.is_ ?_ | with_reducible refine R.isnot ?_ | with_reducible refine R.andV ?_ | with_reducible refine R.orV ?_ | with_reducible refine R.notV ?_
  | ((with_reducible refine R.isi (s := ?s) (b := ?b) ?ty ?h ?q); (case ty => walk_at "ty"); (case h => walk_at "kit"))
  | ((with_reducible refine R.addS ?h ?q); (case h => walk_at "sz")) | with_reducible refine R.max2 ?_ | with_reducible refine R.min2 ?_
  | ((with_reducible refine R.lenStr ?h ?q); (case h => walk_at "szl")) | ((with_reducible refine R.ixS (n := ?n) ?h ?e ?q); (case h => walk_at "szl"); (case e => walk_at "ix"))
  | ((with_reducible refine R.tyl (xs := ?xs) ?h ?q); (case h => walk_at "at")) | with_reducible refine R.itlist ?_ | with_reducible refine R.ittup ?_ | with_reducible refine R.m1 ?_ | with_reducible refine R.m1s ?_ | with_reducible refine R.leS ?_ | with_reducible refine R.itstr ?_ | with_reducible refine R.itstrE ?_ | with_reducible refine R.lc ?_ | with_reducible refine R.lc2 ?_ | with_reducible refine R.ckw ?_ | with_reducible refine R.par ?_ | with_reducible refine R.parE ?_ | with_reducible refine R.itrev ?_ | with_reducible refine R.dsetd ?_ | with_reducible refine R.dnotin_ ?_ | with_reducible refine R.for_ ?_ | ((with_reducible refine R.all_ (bs := ?bs) ?h ?q); (case h => walk_at "at"))
  | with_reducible refine R.rng1 ?_ | ((with_reducible refine R.rngE ?h ?q); (case h => (constructor <;> omega)))
  | ((with_reducible refine R.lenT (xs := ?xs) ?h ?q); (case h => walk_at "sqt")) | ((with_reducible refine R.ixT (xs := ?xs) (v := ?v) ?h ?e ?q); (case h => walk_at "sqt"); (case e => walk_at "ix"))
  | ((refine R.itlE (xs := ?xs) ?h ?q); (case h => walk_at "at")) | ((refine R.ittE (xs := ?xs) ?h ?q); (case h => walk_at "at"))
  | ((refine R.gseq (xs := ?xs) ?h ?e ?q); (case h => walk_at "sqa"); (case e => rfl)) | ((refine R.ixA (xs := ?xs) (v := ?v) ?h ?e ?q); (case h => walk_at "sqa"); (case e => walk_at "ix")) | ((refine R.lenA (xs := ?xs) ?h ?q); (case h => walk_at "sqa"))
  | ((with_reducible refine R.gtup (xs := ?xs) ?h ?e ?q); (case h => walk_at "sqt"); (case e => rfl))
  | with_reducible refine R.din_ ?_ | with_reducible refine R.dput_ ?_
  | with_reducible refine R.dget2_ ?_ | ((with_reducible refine R.aug_ (x := ?x) ?h ?q); case h => rfl) | with_reducible refine R.ipI_ ?_
  | with_reducible refine R.rng2 ?_ | ((with_reducible refine R.rngE2 ?h ?q); (case h => (refine ⟨?_, ?_, ?_, ?_⟩ <;> omega)))
  | with_reducible refine R.brk ?_ | with_reducible refine R.intB ?_ | with_reducible refine R.meth_ ?_ | ((refine KN.methS (rs := ?rs) (ms := ?ms) ?h (fun _ _ _ _ => rfl) ?q); case h => walk_at "sys")
  | with_reducible refine R.sl_ ?_ | with_reducible refine R.np_ ?_ | with_reducible refine R.pt_ ?_ | with_reducible refine R.ptE ?_ | with_reducible refine R.dget_ ?_ | with_reducible refine R.revL_ ?_
  | ((refine R.dgetS (kvs := ?kvs) (v := ?v) ?h ?e ?q); (case h => walk_at "at"); (case e => walk_at "dk"))
  | with_reducible refine R.sfld ?_ | with_reducible refine R.fld_ ?_ | with_reducible refine R.dc ?_
  | with_reducible refine R.dget1_ ?_
  | with_reducible refine R.itseq ?_ | with_reducible refine R.itenum ?_
  | with_reducible refine R.itT ?_ | with_reducible refine R.itF ?_ | with_reducible refine R.itNT ?_ | with_reducible refine R.itNF ?_
  | (with_reducible refine R.tup ?_) | (with_reducible refine R.lst ?_))
local macro_rules | `(tactic| walk_at "rd") => `(tactic| (repeat (first | walk_at "r1" | (dsimp only [Int.reduceToNat, List.set_cons_succ, List.set_cons_zero, List.length_cons, List.length_nil, List.nil_append, List.cons_append, List.append_nil]))))
local macro_rules | `(tactic| walk_at "go") => `(tactic| (rw [R.start_eq]; dsimp only [R.startE, List.map_nil]; walk_at "rd"))
namespace KN
open PySem L2 SX R
open C8 (Cal Def cal0 pe_c pe_gc fnScope fnBody pss_cut)
section
variable {P : Program} {w : World} {K : PySem.W.Frag} {mg : Str → Option Value} {base : Heap}
abbrev sRegular : Stmt := top 29
theorem scRegular : FnScope ["pool", "base", "is_unsaid", "simple", "multipliers", "value", "k"] ["pool"] (fnScope sRegular) := ⟨rfl, rfl, rfl, by decide +kernel, rfl, by decide +kernel, by decide +kernel⟩
/-- the numbers below a base, and its powers -/
structure RegShape (b : Int) (k : Nat) (u : Bool) (rs : List SR) (ms : List MR) : Prop where
  b0 : 2 ≤ b
  b1 : b ≤ 6
  k1 : k ≤ 2
  sl : (rs.length : Int) = b - 1
  sv : ∀ (i : Nat) (r : SR), rs[i]? = some r → r.v = (i : Nat) + 1
  ml : ms.length = k + 1
  mv : ∀ (i : Nat) (m : MR), ms[i]? = some m → m.v = b ^ (i + 1) ∧ m.r = m.v - 1
  mkk : ∀ (i : Nat) (m : MR), ms[i]? = some m → i < k → m.c = some (b - 1) ∧ m.u = u
  me : ∀ m : MR, ms[k]? = some m → m.c = none
def spReg : Sp := fun vs H Q _ => ∃ (p l : Addr) (cs : List Int), vs = [.ref p] ∧ PoolAt H p l ∧ H l = some (.lst (cs.map V.int)) ∧
  ∀ (H' : Hp) (r s m : Addr) (xs ys : List V) (rs : List SR) (ms : List MR) (b : Int) (k : Nat) (u : Bool), SameBut p H H' → PoolAt H' p l → H m = none → s ≠ m → H' r = some (.dK (rowsKs s m)) → H' s = some (.lst xs) → TupsAt H' xs (rs.map srV) →
    H' m = some (.lst ys) → TupsAt H' ys (ms.map mrV) → Drawn 5 216 5 rs ms → RegShape b k u rs ms → Q (.ref r) H'
theorem pow6 {b : Int} {i : Nat} (b0 : 2 ≤ b) (b1 : b ≤ 6) (hi : i ≤ 2) : 2 ≤ b ^ (i + 1) ∧ b ^ (i + 1) ≤ 216 := by
  have hb : b = 2 ∨ b = 3 ∨ b = 4 ∨ b = 5 ∨ b = 6 := by omega
  have hk : i = 0 ∨ i = 1 ∨ i = 2 := by omega
  rcases hb with rfl | rfl | rfl | rfl | rfl <;> rcases hk with rfl | rfl | rfl <;> decide
theorem snoc_get {α : Type} {l : List α} {a x : α} {j : Nat} (h : (l ++ [a])[j]? = some x) : (j < l.length ∧ l[j]? = some x) ∨ (j = l.length ∧ x = a) := by
  by_cases q : j < l.length
  · rw [List.getElem?_append_left q] at h
    exact .inl ⟨q, h⟩
  · have hj : j = l.length := by
      have := (List.getElem?_eq_some_iff.mp h).1
      rw [List.length_append] at this
      simp only [List.length_cons, List.length_nil] at this
      omega
    subst hj
    rw [List.getElem?_append_right (Nat.le_refl _), Nat.sub_self] at h
    cases h
    exact .inr ⟨rfl, rfl⟩
theorem c_regular (Z : Zs mg) (c_take : Cal P w K mg base 2 "_law_take" spTake []) (c_word : Cal P w K mg base 3 "_law_word" spWord []) {f : Addr} {fd : FuncData} (F : Def K mg "_law_regular" sRegular f fd) (b : Binds K fd ["pool"] []) : Cal P w K mg base 4 "_law_regular" spReg [] := by
  refine cal0 F b .nil scRegular (fun vs H Q E h => ?_) (fun cdv A outer s H vs Q E hr h => ?_)
  · obtain ⟨p, l, cs, rfl, _⟩ := h
    rfl
  · obtain ⟨p, l, cs, rfl, hP, hl, k⟩ := h
    refine ⟨_, pss_cons (ps_set (i := 1) scRegular.nd rfl (Or.inl rfl) (pe_op op_add pe_int (pe_c c_take hr (by omega) (by rfl) (pa_cons (pv 0) (pa_cons pe_int pa_nil)))))
      (pss_cons (ps_set (i := 2) scRegular.nd rfl (Or.inl rfl) (pe_cmpR op_eq (pe_c c_take hr (by omega) (by rfl) (pa_cons (pv 0) (pa_cons pe_int pa_nil))) pe_int (nomark _)))
      (pss_cons (ps_setLc (i := 3) (own := [("k", 6)]) (g := gName 6) (tt := tYes) rfl scRegular.nd rfl rfl (sw_true rfl rfl rfl (by decide +kernel)) (pi_range1 (by rfl) Z.range (pa_cons (pe_op op_sub (pv 1) pe_int) pa_nil)) (blkOk_by (own := [("k", 6)]) (N := ["pool", "base", "is_unsaid", "simple", "multipliers", "value", "k"]) (sc := fnScope sRegular) (by decide +kernel)) (fun _ _ _ _ _ => (pg_name (i := 6) scRegular.nd rfl (Or.inl rfl))) (fun _ _ _ _ _ => pts_nil) (fun _ _ _ _ _ => pe_tup (pa_cons (pe_c c_word hr (by omega) (by rfl) (pa_cons (pv 0) (pa_cons (pv 6) pa_nil))) (pa_cons (pe_op op_add (pv 6) pe_int) pa_nil))))
      (pss_cons (ps_set (i := 4) scRegular.nd rfl (Or.inl rfl) (pe_lst pa_nil))
      (pss_cons (ps_set (i := 5) scRegular.nd rfl (Or.inl rfl) (pv 1))
      (pss_cons (ps_for PassesOwn.never rfl (pi_range1 (by rfl) Z.range (pa_cons (pe_c c_take hr (by omega) (by rfl) (pa_cons (pv 0) (pa_cons pe_int pa_nil))) pa_nil)) (pg_name (i := 6) scRegular.nd rfl (Or.inl rfl))
        (pss_cons (ps_expr (kBM K (pe_bm PySem.F.plainAttrs_list PySem.F.slot_list_append PySem.F.type_list_append mt_append (pv 4) (pa_cons (pe_tup (pa_cons (pe_c c_word hr (by omega) (by rfl) (pa_cons (pv 0) (pa_cons (pe_op op_add pe_int (pv 6)) pa_nil))) (pa_cons (pv 5) (pa_cons (pe_op op_sub (pv 1) pe_int) (pa_cons (pv 2) (pa_cons (pe_op op_sub (pv 5) pe_int) pa_nil)))))) pa_nil))))
      (pss_one (ps_set (i := 5) scRegular.nd rfl (Or.inl rfl) (pe_op op_mul (pv 5) (pv 1))))))
      (pss_cons (ps_expr (kBM K (pe_bm PySem.F.plainAttrs_list PySem.F.slot_list_append PySem.F.type_list_append mt_append (pv 4) (pa_cons (pe_tup (pa_cons (pe_c c_word hr (by omega) (by rfl) (pa_cons (pv 0) (pa_cons pe_int pa_nil))) (pa_cons (pv 5) (pa_cons pe_non (pa_cons (pe_cmpR op_eq (pe_c c_take hr (by omega) (by rfl) (pa_cons (pv 0) (pa_cons pe_int pa_nil))) pe_int (nomark _)) (pa_cons (pe_op op_sub (pv 5) pe_int) pa_nil)))))) pa_nil))))
      (pss_one (ps_ret (pe_disp (pps_cons pe_str (pv 3) (pps_cons pe_str (pv 4) pps_nil)) rfl rfl (by intro h; cases h) (by decide)))))))))), ?_⟩
    walk_at "go"
    refine r_take' hP (by omega) (by omega) (fun H1 d1 e1 P1 l1 u1 => ?_)
    walk_at "rd"
    refine r_take' P1 (by omega) (by omega) (fun H2 d2 e2 P2 l2 u2 => ?_)
    have b2 : SameBut p H H2 := e1.trans e2
    have hl2 := b2 _ _ hP.ne hl
    generalize hB : (2 + d1 : Int) = B at *
    have B0 : 2 ≤ B := by omega
    have B1 : B ≤ 6 := by omega
    walk_at "rd"
    intro s hs
    have R0 := DL.of hP hl b2 P2 hs
    refine lc_range (lo := 0) (n := (B - 1).toNat) (fun i H' => ∃ (rs : List SR) (xs : List V), DL H H' p l s cs xs (rs.map srV) ∧ rs.length = i ∧ (∀ (i : Nat) (r : SR), rs[i]? = some r → WordN cs (i : Nat) r.w ∧ r.v = (i : Nat) + 1)) ⟨[], [], R0, rfl, fun i r h => nomatch h⟩ ?_ ?_
    · rintro i H3 hi ⟨rs, xs, R3, hlen, hw⟩
      refine R.gname ⟨rfl, ?_⟩
      rw [Int.zero_add]
      walk_at "rd"
      refine r_word R3.P R3.hl (by omega) (by omega) (fun H4 z e4 P4 wz => ?_)
      have R4 := R3.take e4 P4
      walk_at "rd"
      refine ⟨by decide, fun a ha => R.gen ha fun H5 s5 ha5 => ?_⟩
      have R5 := R4.same s5
      have hxl : xs.length < 100 := by have := R5.ts.len; rw [List.length_map] at this; omega
      refine ⟨xs, R5.hs, small1000 (by omega), rs ++ [⟨z, (i : Nat) + 1⟩], xs ++ [.ref a], ?_, by simp [hlen], fun j r hr => ?_⟩
      · rw [List.map_append]
        exact R5.app ha5
      · rcases snoc_get hr with ⟨_, h⟩ | ⟨h, rfl⟩
        · exact hw j r h
        · rw [h, hlen]
          exact ⟨wz, rfl⟩
    · rintro H3 ⟨rs, xs, R3, hlen, hw⟩
      walk_at "rd"
      refine ⟨by decide, fun m hm => ?_⟩
      have M0 := DM.of R3 hm
      generalize upd H3 m (.lst []) = H4 at M0
      walk_at "rd"
      refine r_take' M0.R.P (by omega) (by omega) (fun H5 n e5 P5 n0 n1 => ?_)
      have M5 := M0.take e5 P5
      walk_at "rd"
      refine for_it walk_range (fun i σ' H' => ∃ (kv : Option V) (ms : List MR) (ys : List V), σ' = [some (.ref p), some (.int B), some (.bl (decide (d2 = 1))), some (.ref s), some (.ref m), some (.int (B ^ (i + 1))), kv] ∧
        DM H H' p l s m cs xs (rs.map srV) ys (ms.map mrV) ∧ ms.length = i ∧ (∀ (i : Nat) (r : MR), ms[i]? = some r → WordN cs (10 + (i : Nat)) r.w ∧ r.v = B ^ (i + 1) ∧ r.r = r.v - 1 ∧ r.c = some (B - 1) ∧ r.u = decide (d2 = 1)))
        ⟨none, [], [], ?_, M5, rfl, fun i r h => nomatch h⟩ (fun _ _ _ _ _ => trivial) ?_ ?_
      · rw [Int.pow_succ, Int.pow_zero, Int.one_mul]
        rfl
      · rintro i x σ' H6 H6' hi ⟨kv, ms, ys, rfl, M6, hml, hmw⟩ ⟨rfl, rfl⟩
        have hpow := pow6 (i := i) B0 B1 (by omega)
        have hps : B ^ (i + 1 + 1) = B ^ (i + 1) * B := Int.pow_succ _ _
        rw [hps]
        generalize hV : B ^ (i + 1) = V at *
        have hm6 := M6.hm
        walk_at "rd"
        refine r_word M6.R.P M6.R.hl (by omega) (by omega) (fun H7 z e7 P7 wz => ?_)
        have M7 := M6.take e7 P7
        walk_at "rd"
        refine ⟨by decide, fun a ha => R.gen ha fun H8 s8 ha8 => ?_⟩
        have M8 := M7.same s8
        have hyl : ys.length = ms.length := by have := M8.tm.len; rwa [List.length_map] at this
        walk_at "rd"
        refine R.append M8.hm (small1000 (by omega)) ?_
        walk_at "rd"
        rw [Int.zero_add] at wz
        refine ⟨_, ms ++ [⟨z, V, some (B - 1), decide (d2 = 1), V - 1⟩], ys ++ [.ref a], rfl, ?_, by simp [hml], fun j r hr => ?_⟩
        · rw [List.map_append]
          exact M8.app ha8
        · rcases snoc_get hr with ⟨_, h⟩ | ⟨h, rfl⟩
          · exact hmw j r h
          · rw [h, hml]
            exact ⟨wz, hV.symm, rfl, rfl, rfl⟩
      · rintro σ' H6 ⟨kv, ms, ys, rfl, M6, hml, hmw⟩
        have hpow := pow6 (i := n.toNat) B0 B1 (by omega)
        generalize hV : B ^ (n.toNat + 1) = V at *
        have hm6 := M6.hm
        walk_at "rd"
        refine r_word M6.R.P M6.R.hl (by omega) (by omega) (fun H7 z e7 P7 wz => ?_)
        have M7 := M6.take e7 P7
        walk_at "rd"
        refine r_take' M7.R.P (by omega) (by omega) (fun H8 d8 e8 P8 n8 n9 => ?_)
        have M8 := M7.take e8 P8
        walk_at "rd"
        refine ⟨by decide, fun a ha => R.gen ha fun H9 s9 ha9 => ?_⟩
        have M9 := M8.same s9
        have hyl : ys.length = ms.length := by have := M9.tm.len; rwa [List.length_map] at this
        walk_at "rd"
        refine R.append M9.hm (small1000 (by omega)) ?_
        have M10 := M9.app ha9
        generalize upd H9 m (.lst (ys ++ [.ref a])) = H10 at M10
        walk_at "rd"
        refine disp fun t ht => R.gen ht fun H11 s11 ht11 => ?_
        have M11 := M10.same s11
        have hs11 := M11.R.hs
        have hm11 := M11.hm
        unfold tPairs
        walk_at "rd"
        unfold tPairs
        walk_at "rd"
        unfold tPairs
        refine ⟨ht11, rowsKs s m, rfl, by show 2 ≤ 15; decide, ?_⟩
        rw [rowsMerge]
        have t0 : H t = none := M10.R.nil0 ht
        obtain ⟨tp, tl⟩ := M10.R.P.nep ht
        have ts' : s ≠ t := (ne_of_none M10.R.hs ht)
        have tm' : m ≠ t := (ne_of_none M10.hm ht)
        have hmr : ∀ (i : Nat) (r : MR), (ms ++ [⟨z, V, none, decide (d8 = 1), V - 1⟩])[i]? = some r → (i < n.toNat → r.c = some (B - 1) ∧ r.u = decide (d2 = 1) ∧ WordN cs (10 + (i : Nat)) r.w) ∧ (¬ i < n.toNat → i = n.toNat ∧ r.c = none ∧ WordN cs 20 r.w) ∧ r.v = B ^ (i + 1) ∧ r.r = r.v - 1 := by
          intro i r hr
          rcases snoc_get hr with ⟨q, h⟩ | ⟨h, rfl⟩
          · obtain ⟨h1, h2, h3, h4, h5⟩ := hmw i r h
            exact ⟨fun _ => ⟨h4, h5, h1⟩, fun z => absurd (by omega) z, h2, h3⟩
          · rw [hml] at h
            exact ⟨fun z => absurd z (by omega), fun _ => ⟨h, rfl, wz⟩, by rw [h]; exact hV.symm, rfl⟩
        have hmm : ∀ r ∈ ms ++ [⟨z, V, none, decide (d8 = 1), V - 1⟩], ∃ i : Nat, i ≤ 2 ∧ (ms ++ [⟨z, V, none, decide (d8 = 1), V - 1⟩])[i]? = some r := by
          intro r hr
          obtain ⟨i, hi, he⟩ := List.mem_iff_getElem.mp hr
          have hi' := hi
          rw [List.length_append] at hi'
          simp only [List.length_cons, List.length_nil] at hi'
          exact ⟨i, by omega, by rw [List.getElem?_eq_getElem hi, he]⟩
        have hsl : (rs.length : Int) = B - 1 := by omega
        refine k _ t s m xs (ys ++ [.ref a]) rs (ms ++ [⟨z, V, none, decide (d8 = 1), V - 1⟩]) B n.toNat (decide (d2 = 1)) (M11.R.sb.put' t0) (M11.R.P.put tp tl) M11.m0 M11.ms.symm upd_same (by rw [upd_ne ts']; exact hs11) (M11.R.ts.keep (fun a d h => ?_)) (by rw [upd_ne tm']; exact hm11) ?_
          ⟨⟨fun r hr => ?_, fun r hr => ?_, ?_, by omega, by rw [List.length_append]; show ms.length + 1 ≤ 6; omega, ?_⟩, fun r hr => ?_, fun r hr => ?_, fun r hr c hc => ?_, by omega, fun z' hz => ?_⟩
          ⟨B0, B1, by omega, hsl, fun i r h => (hw i r h).2, by rw [List.length_append]; show ms.length + 1 = _; omega, fun i r h => ⟨(hmr i r h).2.2.1, (hmr i r h).2.2.2⟩, fun i r h q => ⟨((hmr i r h).1 q).1, ((hmr i r h).1 q).2.1⟩, fun r h => ((hmr _ r h).2.1 (Nat.lt_irrefl _)).2.1⟩
        · rw [upd_ne (ne_of h ht11 (by intro z; cases z))]; exact h
        · rw [List.map_append]
          exact M11.tm.keep fun a d h => by rw [upd_ne (ne_of h ht11 (by intro z; cases z))]; exact h
        · obtain ⟨i, hi, he⟩ := List.mem_iff_getElem.mp hr
          obtain ⟨h1, h2⟩ := hw i r (by rw [List.getElem?_eq_getElem hi, he])
          exact ⟨h1.good, by omega, by omega⟩
        · obtain ⟨i, hi, he⟩ := hmm r hr
          obtain ⟨h1, h2, h3, h4⟩ := hmr i r he
          have hp := pow6 (i := i) B0 B1 hi
          by_cases q : i < n.toNat
          · obtain ⟨g1, g2, g3⟩ := h1 q
            refine ⟨g3.good, by omega, by omega, fun c hc => ?_, by omega, by omega⟩
            rw [g1] at hc
            cases hc
            have q : (B - 1) * r.v ≤ 5 * 216 := Int.mul_le_mul (by omega) (by omega) (by omega) (by omega)
            exact ⟨by omega, by omega, by omega⟩
          · obtain ⟨g0, g1, g2⟩ := h2 q
            exact ⟨g2.good, by omega, by omega, fun c hc => (by rw [g1] at hc; cases hc), by omega, by omega⟩
        · refine nodupW (cs := cs) (fun i => if i < rs.length then (i : Nat) else if i - rs.length < n.toNat then 10 + ((i - rs.length : Nat) : Int) else 20) (fun i z' hz => ?_) (fun i j hij hj => ?_)
          · by_cases h : i < rs.length
            · rw [if_pos h]
              rw [List.getElem?_append_left (by rw [List.length_map]; exact h), List.getElem?_map] at hz
              cases e : rs[i]? with
              | none => rw [e] at hz; cases hz
              | some r => rw [e] at hz; cases hz; exact (hw i r e).1
            · rw [if_neg h]
              rw [List.getElem?_append_right (by rw [List.length_map]; omega), List.getElem?_map, List.length_map] at hz
              cases e : (ms ++ [⟨z, V, none, decide (d8 = 1), V - 1⟩])[i - rs.length]? with
              | none => rw [e] at hz; cases hz
              | some r =>
                rw [e] at hz
                cases hz
                split
                · rename_i q; exact ((hmr _ r e).1 q).2.2
                · rename_i q; exact ((hmr _ r e).2.1 q).2.2
          · rw [List.length_append, List.length_map, List.length_map, List.length_append] at hj
            simp only [List.length_cons, List.length_nil] at hj
            split <;> split <;> (try split) <;> (try split) <;> omega
        · rw [List.filter_append, List.length_append, List.filter_eq_nil_iff.mpr (fun r hr => ?_)]
          · exact Nat.le_refl _
          · obtain ⟨i, hi, he⟩ := List.mem_iff_getElem.mp hr
            obtain ⟨h1, h2, h3, h4, h5⟩ := hmw i r (by rw [List.getElem?_eq_getElem hi, he])
            rw [h4]
            exact Bool.false_ne_true
        · obtain ⟨i, hi, he⟩ := List.mem_iff_getElem.mp hr
          have := (hw i r (by rw [List.getElem?_eq_getElem hi, he])).2
          omega
        · obtain ⟨i, hi, he⟩ := hmm r hr
          obtain ⟨h1, h2, h3, h4⟩ := hmr i r he
          have hp := pow6 (i := i) B0 B1 hi
          omega
        · obtain ⟨i, hi, he⟩ := hmm r hr
          obtain ⟨h1, h2, h3, h4⟩ := hmr i r he
          by_cases q : i < n.toNat
          · rw [(h1 q).1] at hc
            cases hc
            omega
          · rw [(h2 q).2.1] at hc
            cases hc
        · rcases List.mem_append.mp hz with h | h
          · obtain ⟨r, hr, rfl⟩ := List.mem_map.mp h
            obtain ⟨i, hi, he⟩ := List.mem_iff_getElem.mp hr
            exact (hw i r (by rw [List.getElem?_eq_getElem hi, he])).1.fst
          · obtain ⟨r, hr, rfl⟩ := List.mem_map.mp h
            obtain ⟨i, hi, he⟩ := hmm r hr
            obtain ⟨h1, h2, h3, h4⟩ := hmr i r he
            by_cases q : i < n.toNat
            · exact (h1 q).2.2.fst
            · exact (h2 q).2.2.fst
end
end KN
end
section
set_option Elab.async false
set_option linter.all false
set_option maxRecDepth 100000
set_option maxHeartbeats 4000000
set_option pp.maxSteps 1500
set_option pp.deepTerms false
local macro_rules | `(tactic| walk_at "ne") => `(tactic| first
  | assumption | (apply Ne.symm; assumption)
  | exact R.ne_new (by assumption) | exact (R.ne_new (by assumption)).symm
  | exact L2.ne_of_none (by assumption) (by assumption) | exact (L2.ne_of_none (by assumption) (by assumption)).symm
  | exact L2.ne_of_none (by assumption) (R.free_new (by assumption)) | exact (L2.ne_of_none (by assumption) (R.free_new (by assumption))).symm)
local macro_rules | `(tactic| walk_at "at") => `(tactic| first
  | assumption | exact L2.upd_same
  | (refine R.sb (H := ?H) (p := ?p) ?e ?n ?h; (case e => assumption); (case n => walk_at "ne"); (case h => walk_at "at"))
  | (refine R.sm (H := ?H) ?e ?h; (case e => assumption); (case h => walk_at "at"))
  | (refine Eq.trans (L2.upd_ne ?_) ?_ <;> first | walk_at "ne" | walk_at "at"))
local macro_rules | `(tactic| walk_at "sqt") => `(tactic| first | assumption | (refine L2.SqT.of ?_; walk_at "at"))
local macro_rules | `(tactic| walk_at "ty") => `(tactic| first | exact R.tyN | exact R.tyB | exact R.tyI | exact R.tyS | (refine R.tyT (xs := ?xs) ?h; case h => walk_at "at") | (refine R.tyL (xs := ?xs) ?h; case h => walk_at "at"))
local macro_rules | `(tactic| walk_at "kit") => `(tactic| first | exact R.kit_NoneType_tuple | exact R.kit_NoneType_list | exact R.kit_NoneType_bool | exact R.kit_NoneType_str | exact R.kit_NoneType_int | exact R.kit_bool_tuple | exact R.kit_bool_list | exact R.kit_bool_bool | exact R.kit_bool_str | exact R.kit_bool_int | exact R.kit_int_tuple | exact R.kit_int_list | exact R.kit_int_bool | exact R.kit_int_str | exact R.kit_int_int | exact R.kit_str_tuple | exact R.kit_str_list | exact R.kit_str_bool | exact R.kit_str_str | exact R.kit_str_int | exact R.kit_tuple_tuple | exact R.kit_tuple_list | exact R.kit_tuple_bool | exact R.kit_tuple_str | exact R.kit_tuple_int | exact R.kit_list_tuple | exact R.kit_list_list | exact R.kit_list_bool | exact R.kit_list_str | exact R.kit_list_int)
local macro_rules | `(tactic| walk_at "sz") => `(tactic| first | assumption | (refine Nat.le_trans ?_ (show 1000 ≤ PySem.sizeLine by decide); omega) | decide)
local macro_rules | `(tactic| walk_at "szl") => `(tactic| first | assumption | exact Nat.le_of_lt (L2.small1000 (by omega)) | decide | decide +kernel)
local macro_rules | `(tactic| walk_at "sys") => `(tactic| first | assumption | exact KN.SysAt.same (by assumption) (by assumption))
local macro_rules | `(tactic| walk_at "dk") => `(tactic| first | exact R.rowsS _ _ | exact R.rowsM _ _)
local macro_rules | `(tactic| walk_at "sqa") => `(tactic| first | assumption | exact R.SeqA.same (by assumption) (by assumption) | exact R.SeqA.new (by assumption) (by assumption) | (exact Or.inl (by walk_at "at")) | (exact Or.inr (by walk_at "at")))
local macro_rules | `(tactic| walk_at "ix") => `(tactic| first | rfl | (exact L2.atI_nat (by assumption)) | assumption)
local macro_rules | `(tactic| walk_at "cond") => `(tactic| first
  | exact Or.inl (by decide) | exact Or.inr (by decide) | exact Or.inl ⟨by omega, by omega⟩ | exact Or.inr ⟨by omega, by omega⟩
  | (constructor <;> omega) | (show _ ≠ _; omega) | decide | omega)
local macro_rules | `(tactic| walk_at "r1") => `(tactic| first
  | with_reducible refine R.seq ?_ | with_reducible refine R.asg ?_ | with_reducible refine R.ifs ?_ | with_reducible refine R.ret ?_ | with_reducible refine R.retN ?_ | with_reducible refine R.drop ?_ | with_reducible refine R.next ?_
  | with_reducible refine R.op ?_ | ((with_reducible refine R.var (v := ?v) ?h ?q); case h => rfl) | with_reducible refine R.c ?_ | with_reducible refine R.tst ?_ | with_reducible refine R.tb_ ?_ | with_reducible refine R.ex ?_
  | with_reducible refine R.i0 ?_ | with_reducible refine R.eqI ?_ | with_reducible refine R.neI ?_ | ((with_reducible refine R.ic ?_ ?_); · walk_at "cond") | with_reducible refine R.u0 ?_ | with_reducible refine R.un ?_
  | ((with_reducible refine R.eq ?_ ?_); · rfl) | ((with_reducible refine R.ne ?_ ?_); · rfl)
  | with_reducible refine R.and_ ?_ | with_reducible refine R.or_ ?_ | with_reducible refine R.not_ ?_ | with_reducible refine R.ife ?_ | with_reducible refine R.chain ?_
  | with_reducible refine R.cons ?_ | with_reducible refine R.nil ?_ | with_reducible refine R.call ?_ | with_reducible refine R.cb ?_ | with_reducible refine R.bm ?_
  | with_reducible refine R.gname ?_ | with_reducible refine R.gsub ?_ | with_reducible refine R.gnil ?_ | with_reducible refine R.gcons ?_ | with_reducible refine R.yes ?_
  | with_reducible refine R.int1 ?_ | ((with_reducible refine R.lenL (xs := ?xs) ?h ?q); case h => walk_at "at")
  | ((with_reducible refine R.ixL (xs := ?xs) (v := ?v) ?h ?e ?q); (case h => walk_at "at"); (case e => walk_at "ix"))
  | ((with_reducible refine R.setL (xs := ?xs) (n := ?n) ?h ?e ?q); (case h => walk_at "at"); (case e => rfl))
  | ((with_reducible refine R.append (xs := ?xs) ?h ?e ?q); (case h => walk_at "at"); (case e => walk_at "cond"))
  | with_reducible refine R.is_ ?_ | with_reducible refine R.isnot ?_ | with_reducible refine R.andV ?_ | with_reducible refine R.orV ?_ | with_reducible refine R.notV ?_
  | ((with_reducible refine R.isi (s := ?s) (b := ?b) ?ty ?h ?q); (case ty => walk_at "ty"); (case h => walk_at "kit"))
  | ((with_reducible refine R.addS ?h ?q); (case h => walk_at "sz")) | with_reducible refine R.max2 ?_ | with_reducible refine R.min2 ?_
  | ((with_reducible refine R.lenStr ?h ?q); (case h => walk_at "szl")) | ((with_reducible refine R.ixS (n := ?n) ?h ?e ?q); (case h => walk_at "szl"); (case e => walk_at "ix"))
  | ((with_reducible refine R.tyl (xs := ?xs) ?h ?q); (case h => walk_at "at")) | with_reducible refine R.itlist ?_ | with_reducible refine R.ittup ?_ | with_reducible refine R.m1 ?_ | with_reducible refine R.m1s ?_ | with_reducible refine R.leS ?_ | with_reducible refine R.itstr ?_ | with_reducible refine R.itstrE ?_ | with_reducible refine R.lc ?_ | with_reducible refine R.lc2 ?_ | with_reducible refine R.ckw ?_ | with_reducible refine R.par ?_ | with_reducible refine R.parE ?_ | with_reducible refine R.itrev ?_ | with_reducible refine R.dsetd ?_ | with_reducible refine R.dnotin_ ?_ | with_reducible refine R.for_ ?_ | ((with_reducible refine R.all_ (bs := ?bs) ?h ?q); (case h => walk_at "at"))
  | with_reducible refine R.rng1 ?_ | ((with_reducible refine R.rngE ?h ?q); (case h => (constructor <;> omega)))
  | ((with_reducible refine R.lenT (xs := ?xs) ?h ?q); (case h => walk_at "sqt")) | ((with_reducible refine R.ixT (xs := ?xs) (v := ?v) ?h ?e ?q); (case h => walk_at "sqt"); (case e => walk_at "ix"))
  | ((refine R.itlE (xs := ?xs) ?h ?q); (case h => walk_at "at")) | ((refine R.ittE (xs := ?xs) ?h ?q); (case h => walk_at "at"))
  | ((refine R.gseq (xs := ?xs) ?h ?e ?q); (case h => walk_at "sqa"); (case e => rfl)) | ((refine R.ixA (xs := ?xs) (v := ?v) ?h ?e ?q); (case h => walk_at "sqa"); (case e => walk_at "ix")) | ((refine R.lenA (xs := ?xs) ?h ?q); (case h => walk_at "sqa"))
  | ((with_reducible refine R.gtup (xs := ?xs) ?h ?e ?q); (case h => walk_at "sqt"); (case e => rfl))
  | with_reducible refine R.din_ ?_ | with_reducible refine R.dput_ ?_
  | with_reducible refine R.dget2_ ?_ | ((with_reducible refine R.aug_ (x := ?x) ?h ?q); case h => rfl) | with_reducible refine R.ipI_ ?_
  | with_reducible refine R.rng2 ?_ | ((with_reducible refine R.rngE2 ?h ?q); (case h => (refine ⟨?_, ?_, ?_, ?_⟩ <;> omega)))
  | with_reducible refine R.brk ?_ | with_reducible refine R.intB ?_ | with_reducible refine R.meth_ ?_ | ((refine KN.methS (rs := ?rs) (ms := ?ms) ?h (fun _ _ _ _ => rfl) ?q); case h => walk_at "sys")
  | with_reducible refine R.sl_ ?_ | with_reducible refine R.np_ ?_ | with_reducible refine R.pt_ ?_ | with_reducible refine R.ptE ?_ | with_reducible refine R.dget_ ?_ | with_reducible refine R.revL_ ?_
  | ((refine R.dgetS (kvs := ?kvs) (v := ?v) ?h ?e ?q); (case h => walk_at "at"); (case e => walk_at "dk"))
  | with_reducible refine R.sfld ?_ | with_reducible refine R.fld_ ?_ | with_reducible refine R.dc ?_
  | with_reducible refine R.dget1_ ?_
  | with_reducible refine R.itseq ?_ | with_reducible refine R.itenum ?_
  | with_reducible refine R.itT ?_ | with_reducible refine R.itF ?_ | with_reducible refine R.itNT ?_ | with_reducible refine R.itNF ?_
  | (with_reducible refine R.tup ?_) | (with_reducible refine R.lst ?_))
local macro_rules | `(tactic| walk_at "rd") => `(tactic| (repeat (first | walk_at "r1" | (dsimp only [Int.reduceToNat, List.set_cons_succ, List.set_cons_zero, List.length_cons, List.length_nil, List.nil_append, List.cons_append, List.append_nil]))))
local macro_rules | `(tactic| walk_at "go") => `(tactic| (rw [R.start_eq]; dsimp only [R.startE, List.map_nil]; walk_at "rd"))
namespace KN
open PySem L2 SX R
open C8 (Cal Def cal0 pe_c pe_gc fnScope fnBody pss_cut)
section
variable {P : Program} {w : World} {K : PySem.W.Frag} {mg : Str → Option Value} {base : Heap}
abbrev sNearly : Stmt := top 30
theorem scNearly : FnScope ["pool", "rows", "at", "word", "value", "count", "is_unsaid", "rest", "kind"] ["pool"] (fnScope sNearly) := ⟨rfl, rfl, rfl, by decide +kernel, rfl, by decide +kernel, by decide +kernel⟩
structure NF (H H' : Hp) (p l r s m : Addr) (xs ys : List V) (rs : List SR) (ms : List MR) : Prop where
  sb : SameBut p H H'
  P : PoolAt H' p l
  m0 : H m = none
  sm : s ≠ m
  hr : H' r = some (.dK (rowsKs s m))
  hs : H' s = some (.lst xs)
  ts : TupsAt H' xs (rs.map srV)
  hm : H' m = some (.lst ys)
  tm : TupsAt H' ys (ms.map mrV)
theorem NF.take {H H' H2 : Hp} {p l r s m : Addr} {xs ys : List V} {rs : List SR} {ms : List MR} (N : NF H H' p l r s m xs ys rs ms) (e : SameBut p H' H2) (P : PoolAt H2 p l) : NF H H2 p l r s m xs ys rs ms := by
  have rp : r ≠ p := by
    rintro rfl
    obtain ⟨⟨cs, i, d, z, h1', _⟩, _⟩ := N.P
    have := N.hr
    rw [this] at h1'
    cases h1'
  exact ⟨N.sb.trans e, P, N.m0, N.sm, e _ _ rp N.hr, e _ _ (tups_ne N.P N.hs N.ts) N.hs, N.ts.keep (keep_pool N.P e), e _ _ (tups_ne N.P N.hm N.tm) N.hm, N.tm.keep (keep_pool N.P e)⟩
theorem TupsAt.set {H : Hp} {a : Addr} {d : List V} (h : H a = some (.tup d)) : ∀ {xs ds}, TupsAt H xs ds → ∀ i, TupsAt H (xs.set i (.ref a)) (ds.set i d)
  | _, _, .nil, i => .nil
  | _, _, .cons h' t, 0 => .cons h t
  | _, _, .cons h' t, i + 1 => .cons h' (TupsAt.set h t i)
theorem ixN_natK {n j : Nat} (hj : j < n) : ixN n (j : Int) = some j := by
  unfold ixN
  rw [if_pos (by omega), if_pos (by omega)]
  exact congrArg some (by omega)
/-- one row changed -/
structure MChg (m m' : MR) : Prop where
  w : m'.w = m.w
  n : m'.c.isNone = m.c.isNone
  c : ∀ x, m'.c = some x → 1 ≤ x ∧ x ≤ 8
  v : m'.v = m.v ∨ m'.v = m.v + 1
  r0 : 0 ≤ m'.r
  r1 : m'.r ≤ m.r
def NMid (H : Hp) (p l r s mm : Addr) (xs ys : List V) (rs : List SR) (ms : List MR) (d kd : Int) (m : MR) (σ' : L2.St) (H' : Hp) : Prop :=
  ∃ m' : MR, σ' = [some (.ref p), some (.ref r), some (.int d), some (.str m.w), some (.int m'.v), some (ocnt m'.c), some (.bl m'.u), some (.int m'.r), some (.int kd)] ∧ NF H H' p l r s mm xs ys rs ms ∧ MChg m m' ∧ m'.v = m.v
theorem flen {α : Type} (f : α → Bool) : ∀ l l' : List α, l.map f = l'.map f → (l.filter f).length = (l'.filter f).length
  | [], [], _ => rfl
  | a :: l, b :: l', h => by
    rw [List.map_cons, List.map_cons] at h
    obtain ⟨h1, h2⟩ := List.cons.inj h
    have ih := flen f l l' h2
    cases q : f a with
    | true => rw [List.filter_cons_of_pos q, List.filter_cons_of_pos (h1 ▸ q), List.length_cons, List.length_cons, ih]
    | false => rw [List.filter_cons_of_neg (by rw [q]; exact Bool.false_ne_true), List.filter_cons_of_neg (by rw [← h1, q]; exact Bool.false_ne_true), ih]
theorem map_set_same {α β : Type} (f : α → β) : ∀ (l : List α) (i : Nat) (a b : α), l[i]? = some a → f b = f a → (l.set i b).map f = l.map f
  | [], _, _, _, _, _ => rfl
  | x :: l, 0, a, b, h, e => by
    cases h
    rw [List.set_cons_zero, List.map_cons, List.map_cons, e]
  | x :: l, i + 1, a, b, h, e => by
    rw [List.set_cons_succ, List.map_cons, List.map_cons, map_set_same f l i a b h e]
theorem c_nearly (Z : Zs mg) (c_take : Cal P w K mg base 2 "_law_take" spTake []) (c_regular : Cal P w K mg base 4 "_law_regular" spReg []) {f : Addr} {fd : FuncData} (F : Def K mg "_law_nearly" sNearly f fd) (b : Binds K fd ["pool"] []) : Cal P w K mg base 5 "_law_nearly" (spDrawn 5 217 8) [] := by
  refine cal0 F b .nil scNearly (fun vs H Q E h => ?_) (fun cdv A outer s H vs Q E hr h => ?_)
  · obtain ⟨p, l, cs, rfl, _⟩ := h
    rfl
  · obtain ⟨p, l, cs, rfl, hP, hl, k⟩ := h
    refine ⟨_, pss_cons (ps_set (i := 1) scNearly.nd rfl (Or.inl rfl) (pe_c c_regular hr (by omega) (by rfl) (pa_cons (pv 0) pa_nil)))
      (pss_cons (ps_set (i := 2) scNearly.nd rfl (Or.inl rfl) (pe_c c_take hr (by omega) (by rfl) (pa_cons (pv 0) (pa_cons (pe_callB (kLen K) (by rfl) Z.len PySem.boot_len (pa_cons (pe_dget (hu_of hr) (pv 1) pe_str (fun _ _ => rfl)) pa_nil)) pa_nil))))
      (pss_cons (ps_asg (pe_ix (kIxL K) (pe_dget (hu_of hr) (pv 1) pe_str (fun _ _ => rfl)) (pv 2) (fun _ _ => rfl)) (kgTup K (n := 5) rfl (pgs_cons (pg_name (i := 3) scNearly.nd rfl (Or.inl rfl)) (pgs_cons (pg_name (i := 4) scNearly.nd rfl (Or.inl rfl)) (pgs_cons (pg_name (i := 5) scNearly.nd rfl (Or.inl rfl)) (pgs_cons (pg_name (i := 6) scNearly.nd rfl (Or.inl rfl)) (pgs_cons (pg_name (i := 7) scNearly.nd rfl (Or.inl rfl)) pgs_nil)))))))
      (pss_cons (ps_set (i := 8) scNearly.nd rfl (Or.inl rfl) (pe_c c_take hr (by omega) (by rfl) (pa_cons (pv 0) (pa_cons pe_int pa_nil))))
      (pss_cut (ps_if (PW.pt (pw_and (pt_cmpR op_eq (pv 8) pe_int (nomark _)) (pw_and1 (pt_cmpR oIsNot (pv 5) pe_non (nomark _)))))
        (pss_one (ps_set (i := 5) scNearly.nd rfl (Or.inl rfl) (pe_op op_add (pe_op op_add (pv 5) pe_int) (pe_c c_take hr (by omega) (by rfl) (pa_cons (pv 0) (pa_cons pe_int pa_nil))))))
        (pss_nil))
      (pss_cut (ps_if (pt_cmpR op_eq (pv 8) pe_int (nomark _))
        (pss_one (ps_set (i := 6) scNearly.nd rfl (Or.inl rfl) (pe_not (pv 6))))
        (pss_nil))
      (pss_cut (ps_if (pt_cmpR op_eq (pv 8) pe_int (nomark _))
        (pss_one (ps_set (i := 7) scNearly.nd rfl (Or.inl rfl) (pe_callB kMax2 (by rfl) Z.max (by decide +kernel) (pa_cons pe_int (pa_cons (pe_op op_sub (pe_op op_sub (pv 7) pe_int) (pe_c c_take hr (by omega) (by rfl) (pa_cons (pv 0) (pa_cons pe_int pa_nil)))) pa_nil)))))
        (pss_nil))
      (pss_cut (ps_if (pt_cmpR op_eq (pv 8) pe_int (nomark _))
        (pss_one (ps_set (i := 4) scNearly.nd rfl (Or.inl rfl) (pe_op op_add (pv 4) pe_int)))
        (pss_nil))
      (pss_cons (ps_asg (pe_tup (pa_cons (pv 3) (pa_cons (pv 4) (pa_cons (pv 5) (pa_cons (pv 6) (pa_cons (pv 7) pa_nil)))))) (pg_sub (pe_dget (hu_of hr) (pv 1) pe_str (fun _ _ => rfl)) (pv 2) set_list))
      (pss_one (ps_ret (pv 1))))))))))), ?_⟩
    walk_at "go"
    refine ⟨p, l, cs, rfl, hP, hl, fun H1 r s m xs ys rs ms bb kk uu b1 P1 m0 sm hr1 hs1 ts1 hm1 tm1 dr shp => ?_⟩
    have N1 : NF H H1 p l r s m xs ys rs ms := ⟨b1, P1, m0, sm, hr1, hs1, ts1, hm1, tm1⟩
    have lys : ys.length = ms.length := by have := tm1.len; rwa [List.length_map] at this
    have lms := shp.ml
    have lk := shp.k1
    walk_at "rd"
    refine r_take' P1 (by omega) (by omega) (fun H2 d e2 P2 d0 d1 => ?_)
    have N2 := N1.take e2 P2
    have hdi : d.toNat < ms.length := by omega
    have hri : ms[d.toNat]? = some ms[d.toNat] := List.getElem?_eq_getElem hdi
    generalize hme : ms[d.toNat] = mm at hri
    obtain ⟨a, hya, ha⟩ := N2.tm.get d.toNat (mrV mm) (by rw [List.getElem?_map, hri]; rfl)
    replace ha : H2 a = some (.tup [.str mm.w, .int mm.v, ocnt mm.c, .bl mm.u, .int mm.r]) := ha
    have eix : atI ys d = some (.ref a) := atI_pos d0 hya
    have hr2 := N2.hr
    have hm2 := N2.hm
    walk_at "rd"
    refine r_take' P2 (by omega) (by omega) (fun H3 kd e3 P3 kd0 kd1 => ?_)
    have N3 := N2.take e3 P3
    have hmem : mm ∈ ms := List.mem_of_getElem? hri
    have gm := dr.g.m _ hmem
    have g1 := gm.lo
    have g2 := gm.r0
    have g3 := gm.r1
    have g4 := dr.v _ hmem
    have gc : ∀ x, mm.c = some x → 1 ≤ x ∧ x ≤ 5 := fun x hx => ⟨(gm.c x hx).1, dr.c _ hmem x hx⟩
    have M0 : MChg mm mm := ⟨rfl, rfl, fun x hx => by have := gc x hx; omega, .inl rfl, g2, Int.le_refl _⟩
    walk_at "rd"
    refine R.cut (NMid H p l r s m xs ys rs ms d kd mm) ?_ ?_
    · walk_at "rd"
      refine it (fun h1 => ?_) (fun h1 => ?_)
      · walk_at "rd"
        cases hc : mm.c with
        | none =>
          refine itn (fun q => absurd rfl q) (fun _ => ?_)
          walk_at "rd"
          exact ⟨mm, by rw [hc]; rfl, N3, M0, rfl⟩
        | some x =>
          have gx := gc x hc
          rw [show ocnt (some x) = V.int x from rfl]
          refine itn (fun _ => ?_) (fun q => nomatch q)
          walk_at "rd"
          refine r_take' P3 (by omega) (by omega) (fun H4 d4 e4 P4 l4 u4 => ?_)
          walk_at "rd"
          exact ⟨⟨mm.w, mm.v, some (x + 1 + d4), mm.u, mm.r⟩, rfl, N3.take e4 P4, ⟨rfl, by rw [hc]; rfl, fun y hy => by cases hy; omega, .inl rfl, g2, Int.le_refl _⟩, rfl⟩
      · walk_at "rd"
        exact ⟨mm, rfl, N3, M0, rfl⟩
    · rintro σ' H4 ⟨m4, rfl, N4, C4, V4⟩
      walk_at "rd"
      refine R.cut (NMid H p l r s m xs ys rs ms d kd mm) ?_ ?_
      · walk_at "rd"
        refine it (fun h1 => ?_) (fun h1 => ?_)
        · walk_at "rd"
          exact ⟨⟨m4.w, m4.v, m4.c, !m4.u, m4.r⟩, rfl, N4, ⟨C4.w, C4.n, C4.c, C4.v, C4.r0, C4.r1⟩, V4⟩
        · walk_at "rd"
          exact ⟨m4, rfl, N4, C4, V4⟩
      · rintro σ' H5 ⟨m5, rfl, N5, C5, V5⟩
        walk_at "rd"
        refine R.cut (NMid H p l r s m xs ys rs ms d kd mm) ?_ ?_
        · walk_at "rd"
          refine it (fun h1 => ?_) (fun h1 => ?_)
          · walk_at "rd"
            refine r_take' N5.P (by omega) (by omega) (fun H6 d6 e6 P6 l6 u6 => ?_)
            walk_at "rd"
            have c5 := C5.r0
            have c6 := C5.r1
            exact ⟨⟨m5.w, m5.v, m5.c, m5.u, if m5.r - 1 - d6 > 0 then m5.r - 1 - d6 else 0⟩, rfl, N5.take e6 P6, ⟨C5.w, C5.n, C5.c, C5.v, by dsimp only; split <;> omega, by dsimp only; split <;> omega⟩, V5⟩
          · walk_at "rd"
            exact ⟨m5, rfl, N5, C5, V5⟩
        · rintro σ' H6 ⟨m6, rfl, N6, C6, V6⟩
          walk_at "rd"
          refine R.cut (fun σ' H' => ∃ m' : MR, σ' = [some (.ref p), some (.ref r), some (.int d), some (.str mm.w), some (.int m'.v), some (ocnt m'.c), some (.bl m'.u), some (.int m'.r), some (.int kd)] ∧ NF H H' p l r s m xs ys rs ms ∧ MChg mm m' ∧ m'.v ≤ 217 ∧ m'.r < m'.v) ?_ ?_
          · have c5 := C6.r0
            have c6 := C6.r1
            have c7 := C6.v
            walk_at "rd"
            refine it (fun h1 => ?_) (fun h1 => ?_)
            · walk_at "rd"
              exact ⟨⟨m6.w, m6.v + 1, m6.c, m6.u, m6.r⟩, rfl, N6, ⟨C6.w, C6.n, C6.c, .inr (by dsimp only; omega), C6.r0, C6.r1⟩, by dsimp only; omega, by dsimp only; omega⟩
            · walk_at "rd"
              exact ⟨m6, rfl, N6, C6, by omega, by omega⟩
          · rintro σ' H7 ⟨m7, rfl, N7, C7, v7, r7⟩
            have hr7 := N7.hr
            have hm7 := N7.hm
            walk_at "rd"
            refine ⟨by decide, fun t ht => R.gen ht fun H8 s8 ht8 => ?_⟩
            have N8 : NF H H8 p l r s m xs ys rs ms := N7.take (SameBut.of s8) (N7.P.same s8)
            have hr8 := N8.hr
            have hm8 := N8.hm
            walk_at "rd"
            have ixe : ixN ys.length d = some d.toNat := by
              have e' : d = ((d.toNat : Nat) : Int) := by omega
              rw [e']
              exact ixN_natK (by omega)
            refine R.setL hm8 ixe ?_
            walk_at "rd"
            have dj := C7.r0
            have rm : r ≠ m := by
              rintro rfl
              rw [hr8] at hm8
              cases hm8
            have tset : TupsAt (upd H8 m (.lst (ys.set d.toNat (.ref t)))) (ys.set d.toNat (.ref t)) ((ms.set d.toNat ⟨mm.w, m7.v, m7.c, m7.u, m7.r⟩).map mrV) := by
              rw [List.map_set]
              exact (N8.tm.keep (keep_list hm8)).set (keep_list hm8 _ _ ht8) _
            have mem_set : ∀ q ∈ ms.set d.toNat ⟨mm.w, m7.v, m7.c, m7.u, m7.r⟩, q ∈ ms ∨ q = ⟨mm.w, m7.v, m7.c, m7.u, m7.r⟩ := fun q hq => (List.mem_or_eq_of_mem_set hq)
            have gl : 2 ≤ m7.v := by have := C7.v; omega
            have pos : PoolAt (upd H8 m (.lst (ys.set d.toNat (.ref t)))) p l := by
              refine N8.P.put (tups_ne N8.P hm8 N8.tm) ?_
              rintro rfl
              rw [m0] at hl
              cases hl
            refine k _ r rs (ms.set d.toNat ⟨mm.w, m7.v, m7.c, m7.u, m7.r⟩) (N8.sb.put' m0) pos ⟨s, m, xs, ys.set d.toNat (.ref t), by rw [upd_ne rm]; exact hr8, by rw [upd_ne sm]; exact N8.hs, N8.ts.keep (keep_list hm8), upd_same, tset⟩
              ⟨⟨dr.g.s, fun q hq => ?_, ?_, dr.g.sl, by rw [List.length_set]; exact dr.g.ml, ?_⟩, dr.s, fun q hq => ?_, fun q hq c hc => ?_, dr.n, by rw [map_set_same (·.w) ms d.toNat mm ⟨mm.w, m7.v, m7.c, m7.u, m7.r⟩ hri rfl]; exact dr.f⟩
            · rcases mem_set q hq with h | rfl
              · exact dr.g.m q h
              · refine ⟨gm.w, gl, by dsimp only; omega, fun c hc => ?_, C7.r0, r7⟩
                have cc := C7.c c hc
                have q : c * m7.v ≤ 8 * 217 := Int.mul_le_mul cc.2 v7 (by omega) (by omega)
                refine ⟨cc.1, by omega, ?_⟩
                dsimp only
                omega
            · rw [map_set_same (·.w) ms d.toNat mm ⟨mm.w, m7.v, m7.c, m7.u, m7.r⟩ hri rfl]
              exact dr.g.nd
            · rw [flen (fun r : MR => r.c.isNone) _ ms (map_set_same (fun r : MR => r.c.isNone) ms d.toNat mm ⟨mm.w, m7.v, m7.c, m7.u, m7.r⟩ hri C7.n)]
              exact dr.g.one
            · rcases mem_set q hq with h | rfl
              · have := dr.v q h; omega
              · exact v7
            · rcases mem_set q hq with h | rfl
              · have := dr.c q h c hc; omega
              · exact (C7.c c hc).2
end
end KN
end
section
set_option Elab.async false
set_option linter.all false
set_option maxRecDepth 100000
set_option maxHeartbeats 4000000
set_option pp.maxSteps 1500
set_option pp.deepTerms false
local macro_rules | `(tactic| walk_at "ne") => `(tactic| first
  | assumption | (apply Ne.symm; assumption)
  | exact R.ne_new (by assumption) | exact (R.ne_new (by assumption)).symm
  | exact L2.ne_of_none (by assumption) (by assumption) | exact (L2.ne_of_none (by assumption) (by assumption)).symm
  | exact L2.ne_of_none (by assumption) (R.free_new (by assumption)) | exact (L2.ne_of_none (by assumption) (R.free_new (by assumption))).symm)
local macro_rules | `(tactic| walk_at "at") => `(tactic| first
  | assumption | exact L2.upd_same
  | (refine R.sb (H := ?H) (p := ?p) ?e ?n ?h; (case e => assumption); (case n => walk_at "ne"); (case h => walk_at "at"))
  | (refine R.sm (H := ?H) ?e ?h; (case e => assumption); (case h => walk_at "at"))
  | (refine Eq.trans (L2.upd_ne ?_) ?_ <;> first | walk_at "ne" | walk_at "at"))
local macro_rules | `(tactic| walk_at "sqt") => `(tactic| first | assumption | (refine L2.SqT.of ?_; walk_at "at"))
local macro_rules | `(tactic| walk_at "ty") => `(tactic| first | exact R.tyN | exact R.tyB | exact R.tyI | exact R.tyS | (refine R.tyT (xs := ?xs) ?h; case h => walk_at "at") | (refine R.tyL (xs := ?xs) ?h; case h => walk_at "at"))
local macro_rules | `(tactic| walk_at "kit") => `(tactic| first | exact R.kit_NoneType_tuple | exact R.kit_NoneType_list | exact R.kit_NoneType_bool | exact R.kit_NoneType_str | exact R.kit_NoneType_int | exact R.kit_bool_tuple | exact R.kit_bool_list | exact R.kit_bool_bool | exact R.kit_bool_str | exact R.kit_bool_int | exact R.kit_int_tuple | exact R.kit_int_list | exact R.kit_int_bool | exact R.kit_int_str | exact R.kit_int_int | exact R.kit_str_tuple | exact R.kit_str_list | exact R.kit_str_bool | exact R.kit_str_str | exact R.kit_str_int | exact R.kit_tuple_tuple | exact R.kit_tuple_list | exact R.kit_tuple_bool | exact R.kit_tuple_str | exact R.kit_tuple_int | exact R.kit_list_tuple | exact R.kit_list_list | exact R.kit_list_bool | exact R.kit_list_str | exact R.kit_list_int)
local macro_rules | `(tactic| walk_at "sz") => `(tactic| first | assumption | (refine Nat.le_trans ?_ (show 1000 ≤ PySem.sizeLine by decide); omega) | decide)
local macro_rules | `(tactic| walk_at "szl") => `(tactic| first | assumption | exact Nat.le_of_lt (L2.small1000 (by omega)) | decide | decide +kernel)
local macro_rules | `(tactic| walk_at "sys") => `(tactic| first | assumption | exact KN.SysAt.same (by assumption) (by assumption))
local macro_rules | `(tactic| walk_at "dk") => `(tactic| first | exact R.rowsS _ _ | exact R.rowsM _ _)
local macro_rules | `(tactic| walk_at "sqa") => `(tactic| first | assumption | exact R.SeqA.same (by assumption) (by assumption) | exact R.SeqA.new (by assumption) (by assumption) | (exact Or.inl (by walk_at "at")) | (exact Or.inr (by walk_at "at")))
local macro_rules | `(tactic| walk_at "ix") => `(tactic| first | rfl | (exact L2.atI_nat (by assumption)) | assumption)
local macro_rules | `(tactic| walk_at "cond") => `(tactic| first
  | exact Or.inl (by decide) | exact Or.inr (by decide) | exact Or.inl ⟨by omega, by omega⟩ | exact Or.inr ⟨by omega, by omega⟩
  | (constructor <;> omega) | (show _ ≠ _; omega) | decide | omega)
local macro_rules | `(tactic| walk_at "r1") => `(tactic| first
  | with_reducible refine R.seq ?_ | with_reducible refine R.asg ?_ | with_reducible refine R.ifs ?_ | with_reducible refine R.ret ?_ | with_reducible refine R.retN ?_ | with_reducible refine R.drop ?_ | with_reducible refine R.next ?_
  | with_reducible refine R.op ?_ | ((with_reducible refine R.var (v := ?v) ?h ?q); case h => rfl) | with_reducible refine R.c ?_ | with_reducible refine R.tst ?_ | with_reducible refine R.tb_ ?_ | with_reducible refine R.ex ?_
  | with_reducible refine R.i0 ?_ | with_reducible refine R.eqI ?_ | with_reducible refine R.neI ?_ | ((with_reducible refine R.ic ?_ ?_); · walk_at "cond") | with_reducible refine R.u0 ?_ | with_reducible refine R.un ?_
  | ((with_reducible refine R.eq ?_ ?_); · rfl) | ((with_reducible refine R.ne ?_ ?_); · rfl)
  | with_reducible refine R.and_ ?_ | with_reducible refine R.or_ ?_ | with_reducible refine R.not_ ?_ | with_reducible refine R.ife ?_ | with_reducible refine R.chain ?_
  | with_reducible refine R.cons ?_ | with_reducible refine R.nil ?_ | with_reducible refine R.call ?_ | with_reducible refine R.cb ?_ | with_reducible refine R.bm ?_
  | with_reducible refine R.gname ?_ | with_reducible refine R.gsub ?_ | with_reducible refine R.gnil ?_ | with_reducible refine R.gcons ?_ | with_reducible refine R.yes ?_
  | with_reducible refine R.int1 ?_ | ((with_reducible refine R.lenL (xs := ?xs) ?h ?q); case h => walk_at "at")
  | ((with_reducible refine R.ixL (xs := ?xs) (v := ?v) ?h ?e ?q); (case h => walk_at "at"); (case e => walk_at "ix"))
  | ((with_reducible refine R.setL (xs := ?xs) (n := ?n) ?h ?e ?q); (case h => walk_at "at"); (case e => rfl))
  | ((with_reducible refine R.append (xs := ?xs) ?h ?e ?q); (case h => walk_at "at"); (case e => walk_at "cond"))
  | with_reducible refine R.is_ ?_ | with_reducible refine R.isnot ?_ | with_reducible refine R.andV ?_ | with_reducible refine R.orV ?_ | with_reducible refine R.notV ?_
  | ((with_reducible refine R.isi (s := ?s) (b := ?b) ?ty ?h ?q); (case ty => walk_at "ty"); (case h => walk_at "kit"))
  | ((with_reducible refine R.addS ?h ?q); (case h => walk_at "sz")) | with_reducible refine R.max2 ?_ | with_reducible refine R.min2 ?_
  | ((with_reducible refine R.lenStr ?h ?q); (case h => walk_at "szl")) | ((with_reducible refine R.ixS (n := ?n) ?h ?e ?q); (case h => walk_at "szl"); (case e => walk_at "ix"))
  | ((with_reducible refine R.tyl (xs := ?xs) ?h ?q); (case h => walk_at "at")) | with_reducible refine R.itlist ?_ | with_reducible refine R.ittup ?_ | with_reducible refine R.m1 ?_ | with_reducible refine R.m1s ?_ | with_reducible refine R.leS ?_ | with_reducible refine R.itstr ?_ | with_reducible refine R.itstrE ?_ | with_reducible refine R.lc ?_ | with_reducible refine R.lc2 ?_ | with_reducible refine R.ckw ?_ | with_reducible refine R.par ?_ | with_reducible refine R.parE ?_ | with_reducible refine R.itrev ?_ | with_reducible refine R.dsetd ?_ | with_reducible refine R.dnotin_ ?_ | with_reducible refine R.for_ ?_ | ((with_reducible refine R.all_ (bs := ?bs) ?h ?q); (case h => walk_at "at"))
  | with_reducible refine R.rng1 ?_ | ((with_reducible refine R.rngE ?h ?q); (case h => (constructor <;> omega)))
  | ((with_reducible refine R.lenT (xs := ?xs) ?h ?q); (case h => walk_at "sqt")) | ((with_reducible refine R.ixT (xs := ?xs) (v := ?v) ?h ?e ?q); (case h => walk_at "sqt"); (case e => walk_at "ix"))
  | ((refine R.itlE (xs := ?xs) ?h ?q); (case h => walk_at "at")) | ((refine R.ittE (xs := ?xs) ?h ?q); (case h => walk_at "at"))
  | ((refine R.gseq (xs := ?xs) ?h ?e ?q); (case h => walk_at "sqa"); (case e => rfl)) | ((refine R.ixA (xs := ?xs) (v := ?v) ?h ?e ?q); (case h => walk_at "sqa"); (case e => walk_at "ix")) | ((refine R.lenA (xs := ?xs) ?h ?q); (case h => walk_at "sqa"))
  | ((with_reducible refine R.gtup (xs := ?xs) ?h ?e ?q); (case h => walk_at "sqt"); (case e => rfl))
  | with_reducible refine R.din_ ?_ | with_reducible refine R.dput_ ?_
  | with_reducible refine R.dget2_ ?_ | ((with_reducible refine R.aug_ (x := ?x) ?h ?q); case h => rfl) | with_reducible refine R.ipI_ ?_
  | with_reducible refine R.rng2 ?_ | ((with_reducible refine R.rngE2 ?h ?q); (case h => (refine ⟨?_, ?_, ?_, ?_⟩ <;> omega)))
  | with_reducible refine R.brk ?_ | with_reducible refine R.intB ?_ | with_reducible refine R.meth_ ?_ | ((refine KN.methS (rs := ?rs) (ms := ?ms) ?h (fun _ _ _ _ => rfl) ?q); case h => walk_at "sys")
  | with_reducible refine R.sl_ ?_ | with_reducible refine R.np_ ?_ | with_reducible refine R.pt_ ?_ | with_reducible refine R.ptE ?_ | with_reducible refine R.dget_ ?_ | with_reducible refine R.revL_ ?_
  | ((refine R.dgetS (kvs := ?kvs) (v := ?v) ?h ?e ?q); (case h => walk_at "at"); (case e => walk_at "dk"))
  | with_reducible refine R.sfld ?_ | with_reducible refine R.fld_ ?_ | with_reducible refine R.dc ?_
  | with_reducible refine R.dget1_ ?_
  | with_reducible refine R.itseq ?_ | with_reducible refine R.itenum ?_
  | with_reducible refine R.itT ?_ | with_reducible refine R.itF ?_ | with_reducible refine R.itNT ?_ | with_reducible refine R.itNF ?_
  | (with_reducible refine R.tup ?_) | (with_reducible refine R.lst ?_))
local macro_rules | `(tactic| walk_at "rd") => `(tactic| (repeat (first | walk_at "r1" | (dsimp only [Int.reduceToNat, List.set_cons_succ, List.set_cons_zero, List.length_cons, List.length_nil, List.nil_append, List.cons_append, List.append_nil]))))
local macro_rules | `(tactic| walk_at "go") => `(tactic| (rw [R.start_eq]; dsimp only [R.startE, List.map_nil]; walk_at "rd"))
namespace KN
open PySem L2 SX R
open C8 (Cal Def cal0 pe_c pe_gc fnScope fnBody pss_cut)
section
variable {P : Program} {w : World} {K : PySem.W.Frag} {mg : Str → Option Value} {base : Heap}
abbrev sEnglish : Stmt := top 31
theorem scEnglish : FnScope ["pool", "names", "simple", "multipliers", "tens", "word", "value", "k"] ["pool"] (fnScope sEnglish) := ⟨rfl, rfl, rfl, by decide +kernel, rfl, by decide +kernel, by decide +kernel⟩
def engRows : List SR := [⟨Str.ofString "one", 1⟩, ⟨Str.ofString "two", 2⟩, ⟨Str.ofString "three", 3⟩, ⟨Str.ofString "four", 4⟩, ⟨Str.ofString "five", 5⟩, ⟨Str.ofString "six", 6⟩, ⟨Str.ofString "seven", 7⟩, ⟨Str.ofString "eight", 8⟩, ⟨Str.ofString "nine", 9⟩, ⟨Str.ofString "ten", 10⟩, ⟨Str.ofString "eleven", 11⟩, ⟨Str.ofString "twelve", 12⟩, ⟨Str.ofString "thirteen", 13⟩, ⟨Str.ofString "fourteen", 14⟩, ⟨Str.ofString "fifteen", 15⟩, ⟨Str.ofString "sixteen", 16⟩]
def tensRows : List MR := [⟨Str.ofString "twenty", 20, some 1, true, 9⟩, ⟨Str.ofString "thirty", 30, some 1, true, 9⟩, ⟨Str.ofString "forty", 40, some 1, true, 9⟩, ⟨Str.ofString "fifty", 50, some 1, true, 9⟩, ⟨Str.ofString "sixty", 60, some 1, true, 9⟩, ⟨Str.ofString "seventy", 70, some 1, true, 9⟩, ⟨Str.ofString "eighty", 80, some 1, true, 9⟩]
def lastRows (c : Option Int) : List MR := [⟨Str.ofString "hundred", 100, some 9, false, 99⟩, ⟨Str.ofString "thousand", 1000, c, false, 999⟩]
theorem goodW_of {z : Str} (h : okWord z = true) : GoodW z := by
  unfold okWord at h
  simp only [Bool.and_eq_true, decide_eq_true_eq, List.all_eq_true] at h
  obtain ⟨⟨h1, h2⟩, h3⟩ := h
  refine ⟨z.cps.toList, (S_tl z).symm, ?_, ?_, fun c hc => ?_⟩
  · have : z.cps.toList.length = z.length := by simp [Str.length]
    omega
  · have : z.cps.toList.length = z.length := by simp [Str.length]
    omega
  · have := h3 c hc
    unfold okSign at this
    simp only [Bool.and_eq_true, decide_eq_true_eq] at this
    exact this
theorem eng_ok : (engRows.all fun r => okWord r.w && decide (1 ≤ r.v) && decide (r.v ≤ 16)) = true := by decide +kernel
theorem tens_ok : (tensRows.all fun r => okWord r.w && decide (2 ≤ r.v) && decide (r.v ≤ 80) && decide (r.c = some 1) && decide (r.r = 9) && decide (10 ≤ r.v)) = true := by decide +kernel
theorem eng_nodup : (engRows.map (·.w) ++ (tensRows.map (·.w) ++ (lastRows none).map (·.w))).Nodup := by decide +kernel
def fstB (z : Str) : Bool := match z.cps.toList with
  | c :: _ => decide (c < 120)
  | [] => false
theorem fst_of {z : Str} (h : fstB z = true) : Fst z := by
  unfold fstB at h
  split at h
  · rename_i c r e
    refine ⟨c, r, ?_, of_decide_eq_true h⟩
    obtain ⟨l⟩ := z
    obtain ⟨l⟩ := l
    cases e
    rfl
  · cases h
theorem eng_fst : (engRows.map (·.w) ++ (tensRows.map (·.w) ++ (lastRows none).map (·.w))).all fstB = true := by decide +kernel
theorem eng_good {n j : Nat} {c : Option Int} (hn : n ≤ 16) (hj : j ≤ 3) (hc : c = none ∨ c = some 99) : Drawn 16 1000 99 (engRows.take n) (tensRows.take j ++ lastRows c) := by
  have e0 := List.all_eq_true.mp eng_ok
  have t0 := List.all_eq_true.mp tens_ok
  have hs : ∀ r ∈ engRows.take n, okWord r.w = true ∧ 1 ≤ r.v ∧ r.v ≤ 16 := fun r hr => by
    have := e0 r (List.mem_of_mem_take hr)
    simp only [Bool.and_eq_true, decide_eq_true_eq] at this
    exact ⟨this.1.1, this.1.2, this.2⟩
  have ht : ∀ r ∈ tensRows.take j ++ lastRows c, okWord r.w = true ∧ 2 ≤ r.v ∧ r.v ≤ 1000 ∧ 0 ≤ r.r ∧ r.r < r.v ∧ ∀ x, r.c = some x → 1 ≤ x ∧ x ≤ 99 ∧ x * r.v + r.r ≤ 100000 := fun r hr => by
    rcases List.mem_append.mp hr with h | h
    · have := t0 r (List.mem_of_mem_take h)
      simp only [Bool.and_eq_true, decide_eq_true_eq] at this
      obtain ⟨⟨⟨⟨⟨h1, h2⟩, h3⟩, h4⟩, h5⟩, h6⟩ := this
      refine ⟨h1, h2, by omega, by omega, by omega, fun x hx => ?_⟩
      rw [h4] at hx
      cases hx
      exact ⟨by decide, by decide, by omega⟩
    · unfold lastRows at h
      simp only [List.mem_cons, List.not_mem_nil, or_false] at h
      rcases h with rfl | rfl
      · exact ⟨by decide +kernel, by decide, by decide, by decide, by decide, fun x hx => by cases hx; exact ⟨by decide, by decide, by decide⟩⟩
      · rcases hc with rfl | rfl
        · exact ⟨by decide +kernel, by decide, by decide, by decide, by decide, fun x hx => by cases hx⟩
        · exact ⟨by decide +kernel, by decide, by decide, by decide, by decide, fun x hx => by cases hx; exact ⟨by decide, by decide, by decide⟩⟩
  have wl : (lastRows c).map (·.w) = (lastRows none).map (·.w) := rfl
  refine ⟨⟨fun r hr => ⟨goodW_of (hs r hr).1, (hs r hr).2.1, by have := (hs r hr).2.2; omega⟩, fun r hr => ?_, ?_, ?_, ?_, ?_⟩, fun r hr => (hs r hr).2.2, fun r hr => (ht r hr).2.2.1, fun r hr x hx => ((ht r hr).2.2.2.2.2 x hx).2.1, by rw [List.length_take]; omega, fun z hz => fst_of (List.all_eq_true.mp eng_fst z (List.Sublist.subset ((List.take_sublist _ _).append ((List.take_sublist _ _).append (List.Sublist.refl _))) (by rw [List.map_append, wl, List.map_take, List.map_take] at hz; exact hz)))⟩
  · obtain ⟨h1, h2, h3, h4, h5, h6⟩ := ht r hr
    exact ⟨goodW_of h1, h2, by omega, fun x hx => ⟨(h6 x hx).1, by have := (h6 x hx).2.1; omega, (h6 x hx).2.2⟩, h4, h5⟩
  · rw [List.map_append, wl, List.map_take, List.map_take]
    exact eng_nodup.sublist ((List.take_sublist _ _).append ((List.take_sublist _ _).append (List.Sublist.refl _)))
  · rw [List.length_take]; have : engRows.length = 16 := rfl; omega
  · rw [List.length_append, List.length_take]; have : (lastRows c).length = 2 := rfl; omega
  · rw [List.filter_append, List.length_append, List.filter_eq_nil_iff.mpr (fun r hr => ?_)]
    · rcases hc with rfl | rfl <;> decide
    · have := t0 r (List.mem_of_mem_take hr)
      simp only [Bool.and_eq_true, decide_eq_true_eq] at this
      rw [this.1.1.2]
      exact Bool.false_ne_true
theorem eng_at0 : ∀ n : Nat, n < 16 → (engRows[n]?.map (·.v)) = some ((n : Int) + 1) := by decide +kernel
theorem eng_at (n : Nat) (h : n < 16) : ∃ r, engRows[n]? = some r ∧ r.v = (n : Int) + 1 := by
  have := eng_at0 n h
  cases e : engRows[n]? with
  | none => rw [e] at this; cases this
  | some r => rw [e] at this; exact ⟨r, rfl, Option.some.inj this⟩
theorem tens_at0 : ∀ n : Nat, n < 7 → (tensRows[n]?.map fun r => (r.c, r.u, r.r)) = some (some 1, true, 9) := by decide +kernel
theorem tens_at (n : Nat) (h : n < 7) : ∃ r, tensRows[n]? = some r ∧ r = ⟨r.w, r.v, some 1, true, 9⟩ := by
  have := tens_at0 n h
  cases e : tensRows[n]? with
  | none => rw [e] at this; cases this
  | some r =>
    rw [e] at this
    refine ⟨r, rfl, ?_⟩
    have q := Option.some.inj this
    obtain ⟨w, v, c, u, r⟩ := r
    simp only [Prod.mk.injEq] at q
    obtain ⟨rfl, rfl, rfl⟩ := q
    rfl
theorem c_english (Z : Zs mg) (c_take : Cal P w K mg base 2 "_law_take" spTake []) {f : Addr} {fd : FuncData} (F : Def K mg "_law_english" sEnglish f fd) (b : Binds K fd ["pool"] []) : Cal P w K mg base 3 "_law_english" (spDrawn 16 1000 99) [] := by
  refine cal0 F b .nil scEnglish (fun vs H Q E h => ?_) (fun cdv A outer s H vs Q E hr h => ?_)
  · obtain ⟨p, l, cs, rfl, _⟩ := h
    rfl
  · obtain ⟨p, l, cs, rfl, hP, hl, k⟩ := h
    refine ⟨_, pss_cons (ps_set (i := 1) scEnglish.nd rfl (Or.inr rfl) (pe_lst (pa_cons pe_str (pa_cons pe_str (pa_cons pe_str (pa_cons pe_str (pa_cons pe_str (pa_cons pe_str (pa_cons pe_str (pa_cons pe_str (pa_cons pe_str (pa_cons pe_str (pa_cons pe_str (pa_cons pe_str pa_nil))))))))))))))
      (pss_cons (ps_set (i := 1) scEnglish.nd rfl (Or.inr rfl) (pe_op op_cat (pv 1) (pe_lst (pa_cons pe_str (pa_cons pe_str (pa_cons pe_str (pa_cons pe_str pa_nil)))))))
      (pss_cons (ps_setLc (i := 2) (own := [("k", 7)]) (g := gName 7) (tt := tYes) rfl scEnglish.nd rfl rfl (sw_true rfl rfl rfl (by decide +kernel)) (pi_range1 (by rfl) Z.range (pa_cons (pe_op op_add pe_int (pe_c c_take hr (by omega) (by rfl) (pa_cons (pv 0) (pa_cons pe_int pa_nil)))) pa_nil)) (blkOk_by (own := [("k", 7)]) (N := ["pool", "names", "simple", "multipliers", "tens", "word", "value", "k"]) (sc := fnScope sEnglish) (by decide +kernel)) (fun _ _ _ _ _ => (pg_name (i := 7) scEnglish.nd rfl (Or.inl rfl))) (fun _ _ _ _ _ => pts_nil) (fun _ _ _ _ _ => pe_tup (pa_cons (pe_ix (kIxL K) (pv 1) (pv 7) (fun _ _ => rfl)) (pa_cons (pe_op op_add (pv 7) pe_int) pa_nil))))
      (pss_cons (ps_set (i := 3) scEnglish.nd rfl (Or.inl rfl) (pe_lst pa_nil))
      (pss_cons (ps_set (i := 4) scEnglish.nd rfl (Or.inl rfl) (pe_lst (pa_cons (pe_tup (pa_cons pe_str (pa_cons pe_int pa_nil))) (pa_cons (pe_tup (pa_cons pe_str (pa_cons pe_int pa_nil))) (pa_cons (pe_tup (pa_cons pe_str (pa_cons pe_int pa_nil))) (pa_cons (pe_tup (pa_cons pe_str (pa_cons pe_int pa_nil))) (pa_cons (pe_tup (pa_cons pe_str (pa_cons pe_int pa_nil))) (pa_cons (pe_tup (pa_cons pe_str (pa_cons pe_int pa_nil))) (pa_cons (pe_tup (pa_cons pe_str (pa_cons pe_int pa_nil))) pa_nil)))))))))
      (pss_cons (ps_for PassesOwn.never rfl (kiL K (pe_slice (kSlL K) (pv 4) po_none (po_some (pe_c c_take hr (by omega) (by rfl) (pa_cons (pv 0) (pa_cons pe_int pa_nil)))))) (kgTup K (n := 2) rfl (pgs_cons (pg_name (i := 5) scEnglish.nd rfl (Or.inl rfl)) (pgs_cons (pg_name (i := 6) scEnglish.nd rfl (Or.inl rfl)) pgs_nil)))
        (pss_one (ps_expr (kBM K (pe_bm PySem.F.plainAttrs_list PySem.F.slot_list_append PySem.F.type_list_append mt_append (pv 3) (pa_cons (pe_tup (pa_cons (pv 5) (pa_cons (pv 6) (pa_cons pe_int (pa_cons pe_bl (pa_cons pe_int pa_nil)))))) pa_nil))))))
      (pss_cons (ps_expr (kBM K (pe_bm PySem.F.plainAttrs_list PySem.F.slot_list_append PySem.F.type_list_append mt_append (pv 3) (pa_cons (pe_tup (pa_cons pe_str (pa_cons pe_int (pa_cons pe_int (pa_cons pe_bl (pa_cons pe_int pa_nil)))))) pa_nil))))
      (pss_cons (ps_expr (kBM K (pe_bm PySem.F.plainAttrs_list PySem.F.slot_list_append PySem.F.type_list_append mt_append (pv 3) (pa_cons (pe_tup (pa_cons pe_str (pa_cons pe_int (pa_cons (pe_ix (kIxT K) (pe_tup (pa_cons pe_non (pa_cons pe_int pa_nil))) (pe_c c_take hr (by omega) (by rfl) (pa_cons (pv 0) (pa_cons pe_int pa_nil))) (fun _ _ => rfl)) (pa_cons pe_bl (pa_cons pe_int pa_nil)))))) pa_nil))))
      (pss_one (ps_ret (pe_disp (pps_cons pe_str (pv 2) (pps_cons pe_str (pe_slice (kSlL K) (pv 3) po_none (po_some pe_int)) pps_nil)) rfl rfl (by intro h; cases h) (by decide))))))))))), ?_⟩
    walk_at "go"
    refine ⟨by decide, fun a1 ha1 => R.gen ha1 fun H1 s1 h1 => ?_⟩
    walk_at "rd"
    refine ⟨by decide, fun a2 ha2 => R.gen ha2 fun H2 s2 h2 => ?_⟩
    have h1' := s2 _ _ h1
    walk_at "rd"
    refine R.catL h1' h2 (by decide) fun a3 ha3 => R.gen ha3 fun H3 s3 h3 => ?_
    have s03 := (s1.trans s2).trans s3
    have hP3 := hP.same s03
    have hl3 := s03 _ _ hl
    replace h3 : H3 a3 = some (.lst ((engRows.map (·.w)).map V.str)) := h3
    clear h1 h1' h2
    walk_at "rd"
    refine r_take' hP3 (by omega) (by omega) (fun H4 d4 e4 P4 l4 u4 => ?_)
    have a3p := (hP.same (s1.trans s2)).nep ha3
    have h4 := e4 _ _ a3p.1 h3
    have b4 := (SameBut.of s03 : SameBut p _ _).trans e4
    walk_at "rd"
    intro D hD
    have R0 := DL.of hP hl b4 P4 hD
    have Da : a3 ≠ D := ne_of_none h4 hD
    refine lc_range (lo := 0) (n := (1 + d4).toNat) (fun i H' => ∃ xs : List V, DL H H' p l D cs xs ((engRows.take i).map srV) ∧ H' a3 = some (.lst ((engRows.map (·.w)).map V.str))) ⟨[], R0, by rw [upd_ne Da]; exact h4⟩ ?_ ?_
    · rintro i H5 hi ⟨xs, R5, h5⟩
      obtain ⟨r, hr1, hr2⟩ := eng_at i (by omega)
      have eix : atI ((engRows.map (·.w)).map V.str) (i : Nat) = some (.str r.w) := atI_nat (by rw [List.getElem?_map, List.getElem?_map, hr1]; rfl)
      refine R.gname ⟨rfl, ?_⟩
      rw [Int.zero_add]
      walk_at "rd"
      refine ⟨by decide, fun a ha => R.gen ha fun H6 s6 h6 => ?_⟩
      have R6 := R5.same s6
      have hxl : xs.length < 100 := by have := R6.ts.len; rw [List.length_map, List.length_take] at this; have e : engRows.length = 16 := rfl; omega
      refine ⟨xs, R6.hs, small1000 (by omega), xs ++ [.ref a], ?_, by rw [upd_ne Da]; exact s6 _ _ h5⟩
      have et : engRows.take (i + 1) = engRows.take i ++ [r] := by rw [List.take_add_one, hr1]; rfl
      rw [et, List.map_append]
      refine R6.app ?_
      rw [h6, ← hr2]
      rfl
    · rintro H5 ⟨xs, R5, h5⟩
      generalize hn : (1 + d4).toNat = n at R5
      walk_at "rd"
      refine ⟨by decide, fun m hm => ?_⟩
      have M0 := DM.of R5 hm
      generalize upd H5 m (.lst []) = H6 at M0
      walk_at "rd"
      refine ⟨by decide, fun t1 ht1 => R.gen ht1 fun G1 g1 k1 => ?_⟩
      walk_at "rd"
      refine ⟨by decide, fun t2 ht2 => R.gen ht2 fun G2 g2 k2 => ?_⟩
      walk_at "rd"
      refine ⟨by decide, fun t3 ht3 => R.gen ht3 fun G3 g3 k3 => ?_⟩
      walk_at "rd"
      refine ⟨by decide, fun t4 ht4 => R.gen ht4 fun G4 g4 k4 => ?_⟩
      walk_at "rd"
      refine ⟨by decide, fun t5 ht5 => R.gen ht5 fun G5 g5 k5 => ?_⟩
      walk_at "rd"
      refine ⟨by decide, fun t6 ht6 => R.gen ht6 fun G6 g6 k6 => ?_⟩
      walk_at "rd"
      refine ⟨by decide, fun t7 ht7 => R.gen ht7 fun G7 g7 k7 => ?_⟩
      walk_at "rd"
      refine ⟨by decide, fun tn htn => R.gen htn fun G8 g8 k8 => ?_⟩
      have M8 := M0.same (g1.trans (g2.trans (g3.trans (g4.trans (g5.trans (g6.trans (g7.trans g8)))))))
      have tt : TupsAt G8 [.ref t1, .ref t2, .ref t3, .ref t4, .ref t5, .ref t6, .ref t7] (tensRows.map fun r => [V.str r.w, .int r.v]) :=
        .cons ((g2.trans (g3.trans (g4.trans (g5.trans (g6.trans (g7.trans g8)))))) _ _ k1) (.cons ((g3.trans (g4.trans (g5.trans (g6.trans (g7.trans g8))))) _ _ k2) (.cons ((g4.trans (g5.trans (g6.trans (g7.trans g8)))) _ _ k3) (.cons ((g5.trans (g6.trans (g7.trans g8))) _ _ k4)
          (.cons ((g6.trans (g7.trans g8)) _ _ k5) (.cons ((g7.trans g8) _ _ k6) (.cons (g8 _ _ k7) .nil))))))
      generalize hT : [V.ref t1, .ref t2, .ref t3, .ref t4, .ref t5, .ref t6, .ref t7] = tl at k8 tt
      have tll : tl.length = 7 := by rw [← hT]; rfl
      have tnp := (M0.same (g1.trans (g2.trans (g3.trans (g4.trans (g5.trans (g6.trans g7))))))).R.P.nep htn
      clear k1 k2 k3 k4 k5 k6 k7
      walk_at "rd"
      refine r_take' M8.R.P (by omega) (by omega) (fun H9 d9 e9 P9 l9 u9 => ?_)
      have M9 := M8.take e9 P9
      have k9 := e9 _ _ tnp.1 k8
      have tt9 := tt.keep (keep_pool M8.R.P e9)
      walk_at "rd"
      refine slLN k9 fun sl H10 s10 hsl k10 => ?_
      rw [cut_to _ l9] at k10
      have M10 := M9.same s10
      have tt10 := tt9.keep (fun a d h => s10 _ _ h)
      walk_at "rd"
      refine for_it (walk_list (K := K) (a := sl) (xs := tl.take d9.toNat)) (fun i σ' H' => ∃ (kv wv vv : Option V) (ys : List V), σ' = [some (.ref p), some (.ref a3), some (.ref D), some (.ref m), some (.ref tn), wv, vv, kv] ∧
        DM H H' p l D m cs xs ((engRows.take n).map srV) ys ((tensRows.take i).map mrV) ∧ H' sl = some (.lst (tl.take d9.toNat)) ∧ TupsAt H' tl (tensRows.map fun r => [V.str r.w, .int r.v]))
        ⟨none, none, none, [], rfl, M10, k10, tt10⟩ (fun i σ' H' _ hh => by obtain ⟨_, _, _, _, _, _, h, _⟩ := hh; exact SqL.of h) ?_ ?_
      · rintro i x σ' H11 H11' hi ⟨kv, wv, vv, ys, rfl, M11, k11, tt11⟩ ⟨rfl, hx⟩
        have hi' : i < d9.toNat ∧ i < 7 := by rw [List.length_take] at hi; omega
        obtain ⟨r, hr1, hr2⟩ := tens_at i hi'.2
        obtain ⟨a, hya, ha⟩ := tt11.get i [V.str r.w, .int r.v] (by rw [List.getElem?_map, hr1]; rfl)
        rw [List.getElem?_take_of_lt hi'.1, hya] at hx
        cases hx
        have hm11 := M11.hm
        walk_at "rd"
        refine ⟨by decide, fun a2 ha2 => R.gen ha2 fun H12 s12 h12 => ?_⟩
        have M12 := M11.same s12
        have k12 := s12 _ _ k11
        have tt12 := tt11.keep (fun a d h => s12 _ _ h)
        have hyl : ys.length < 100 := by have := M12.tm.len; rw [List.length_map, List.length_take] at this; omega
        have slm : sl ≠ m := by
          rintro rfl
          have := M10.m0
          exact absurd (M9.hm) (by rw [hsl]; intro z; cases z)
        walk_at "rd"
        refine R.append M12.hm (small1000 (by omega)) ?_
        walk_at "rd"
        have et : tensRows.take (i + 1) = tensRows.take i ++ [r] := by rw [List.take_add_one, hr1]; rfl
        refine ⟨_, _, _, ys ++ [.ref a2], rfl, ?_, by rw [upd_ne slm]; exact k12, tt12.keep (keep_list M12.hm)⟩
        rw [et, List.map_append]
        refine M12.app ?_
        rw [h12, hr2]
        rfl
      · rintro σ' H11 ⟨kv, wv, vv, ys, rfl, M11, k11, tt11⟩
        have hdl : (tl.take d9.toNat).length = d9.toNat := by rw [List.length_take]; omega
        rw [hdl] at M11
        have hm11 := M11.hm
        walk_at "rd"
        refine ⟨by decide, fun a5 ha5 => R.gen ha5 fun H12 s12 h12 => ?_⟩
        have M12 := M11.same s12
        have hyl : ys.length = d9.toNat := by have := M12.tm.len; rw [List.length_map, List.length_take] at this; have e : tensRows.length = 7 := rfl; omega
        walk_at "rd"
        refine R.append M12.hm (small1000 (by omega)) ?_
        have M13 := M12.app h12
        generalize upd H12 m (.lst (ys ++ [.ref a5])) = H13 at M13
        have hm13 := M13.hm
        walk_at "rd"
        refine ⟨by decide, fun t9 ht9 => R.gen ht9 fun H14 s14 h14 => ?_⟩
        have M14 := M13.same s14
        have tp9 := (M13.R.P.nep ht9).1
        walk_at "rd"
        refine r_take' M14.R.P (by omega) (by omega) (fun H15 d15 e15 P15 l15 u15 => ?_)
        have M15 := M14.take e15 P15
        have h15 := e15 _ _ tp9 h14
        obtain ⟨v, hv1, ev⟩ := atI_in (xs := [V.non, .int 99]) l15 u15
        obtain ⟨c, rfl, hc⟩ : ∃ c : Option Int, v = ocnt c ∧ (c = none ∨ c = some 99) := by
          simp only [List.mem_cons, List.not_mem_nil, or_false] at hv1
          rcases hv1 with rfl | rfl
          · exact ⟨none, rfl, .inl rfl⟩
          · exact ⟨some 99, rfl, .inr rfl⟩
        walk_at "rd"
        refine ⟨by decide, fun a6 ha6 => R.gen ha6 fun H16 s16 h16 => ?_⟩
        have M16 := M15.same s16
        walk_at "rd"
        refine R.append M16.hm (small1000 (by rw [List.length_append]; show ys.length + 1 ≤ 1000; omega)) ?_
        have M17 := M16.app h16
        generalize upd H16 m (.lst (ys ++ [.ref a5] ++ [.ref a6])) = H17 at M17
        walk_at "rd"
        refine disp fun t ht => R.gen ht fun H18 s18 ht18 => ?_
        have M18 := M17.same s18
        have hs18 := M18.R.hs
        have hm18 := M18.hm
        unfold tPairs
        walk_at "rd"
        unfold tPairs
        walk_at "rd"
        refine slLN hm18 fun m2 H19 s19 hm2 h19 => ?_
        rw [cut_to _ (by decide), List.take_of_length_le (by rw [List.length_append, List.length_append]; show ys.length + 1 + 1 ≤ 6; omega)] at h19
        have M19 := M18.same s19
        have ht19 := s19 _ _ ht18
        unfold tPairs
        refine ⟨ht19, rowsKs D m2, rfl, by show 2 ≤ 15; decide, ?_⟩
        rw [rowsMerge]
        have t0 : H t = none := M17.R.nil0 ht
        obtain ⟨tp, tl'⟩ := M17.R.P.nep ht
        have ts' : D ≠ t := (ne_of_none M17.R.hs ht)
        have tm' : m2 ≠ t := (ne_of_none ht18 hm2).symm
        refine k _ t (engRows.take n) (tensRows.take d9.toNat ++ lastRows c) (M19.R.sb.put' t0) (M19.R.P.put tp tl') ⟨D, m2, xs, _, upd_same, by rw [upd_ne ts']; exact M19.R.hs, M19.R.ts.keep (fun a d h => ?_), by rw [upd_ne tm']; exact h19, ?_⟩ ((eng_good (by omega) (by omega) hc).mono (by decide) (by decide) (by decide))
        · rw [upd_ne (ne_of h ht19 (by intro z; cases z))]; exact h
        · have q := M19.tm.keep (H' := upd H19 t (.dK (rowsKs D m2))) (fun a d h => by rw [upd_ne (ne_of h ht19 (by intro z; cases z))]; exact h)
          rw [List.map_append]
          have e : (lastRows c).map mrV = [[V.str (Str.ofString "hundred"), .int 100, .int 9, .bl false, .int 99]] ++ [[V.str (Str.ofString "thousand"), .int 1000, ocnt c, .bl false, .int 999]] := rfl
          rw [e, ← List.append_assoc]
          exact q
end
end KN
end
section
set_option Elab.async false
set_option linter.all false
set_option maxRecDepth 100000
set_option maxHeartbeats 4000000
set_option pp.maxSteps 1500
set_option pp.deepTerms false
local macro_rules | `(tactic| walk_at "ne") => `(tactic| first
  | assumption | (apply Ne.symm; assumption)
  | exact R.ne_new (by assumption) | exact (R.ne_new (by assumption)).symm
  | exact L2.ne_of_none (by assumption) (by assumption) | exact (L2.ne_of_none (by assumption) (by assumption)).symm
  | exact L2.ne_of_none (by assumption) (R.free_new (by assumption)) | exact (L2.ne_of_none (by assumption) (R.free_new (by assumption))).symm)
local macro_rules | `(tactic| walk_at "at") => `(tactic| first
  | assumption | exact L2.upd_same
  | (refine R.sb (H := ?H) (p := ?p) ?e ?n ?h; (case e => assumption); (case n => walk_at "ne"); (case h => walk_at "at"))
  | (refine R.sm (H := ?H) ?e ?h; (case e => assumption); (case h => walk_at "at"))
  | (refine Eq.trans (L2.upd_ne ?_) ?_ <;> first | walk_at "ne" | walk_at "at"))
local macro_rules | `(tactic| walk_at "sqt") => `(tactic| first | assumption | (refine L2.SqT.of ?_; walk_at "at"))
local macro_rules | `(tactic| walk_at "ty") => `(tactic| first | exact R.tyN | exact R.tyB | exact R.tyI | exact R.tyS | (refine R.tyT (xs := ?xs) ?h; case h => walk_at "at") | (refine R.tyL (xs := ?xs) ?h; case h => walk_at "at"))
local macro_rules | `(tactic| walk_at "kit") => `(tactic| first | exact R.kit_NoneType_tuple | exact R.kit_NoneType_list | exact R.kit_NoneType_bool | exact R.kit_NoneType_str | exact R.kit_NoneType_int | exact R.kit_bool_tuple | exact R.kit_bool_list | exact R.kit_bool_bool | exact R.kit_bool_str | exact R.kit_bool_int | exact R.kit_int_tuple | exact R.kit_int_list | exact R.kit_int_bool | exact R.kit_int_str | exact R.kit_int_int | exact R.kit_str_tuple | exact R.kit_str_list | exact R.kit_str_bool | exact R.kit_str_str | exact R.kit_str_int | exact R.kit_tuple_tuple | exact R.kit_tuple_list | exact R.kit_tuple_bool | exact R.kit_tuple_str | exact R.kit_tuple_int | exact R.kit_list_tuple | exact R.kit_list_list | exact R.kit_list_bool | exact R.kit_list_str | exact R.kit_list_int)
local macro_rules | `(tactic| walk_at "sz") => `(tactic| first | assumption | (refine Nat.le_trans ?_ (show 1000 ≤ PySem.sizeLine by decide); omega) | decide)
local macro_rules | `(tactic| walk_at "szl") => `(tactic| first | assumption | exact Nat.le_of_lt (L2.small1000 (by omega)) | decide | decide +kernel)
local macro_rules | `(tactic| walk_at "sys") => `(tactic| first | assumption | exact KN.SysAt.same (by assumption) (by assumption))
local macro_rules | `(tactic| walk_at "dk") => `(tactic| first | exact R.rowsS _ _ | exact R.rowsM _ _)
local macro_rules | `(tactic| walk_at "sqa") => `(tactic| first | assumption | exact R.SeqA.same (by assumption) (by assumption) | exact R.SeqA.new (by assumption) (by assumption) | (exact Or.inl (by walk_at "at")) | (exact Or.inr (by walk_at "at")))
local macro_rules | `(tactic| walk_at "ix") => `(tactic| first | rfl | (exact L2.atI_nat (by assumption)) | assumption)
local macro_rules | `(tactic| walk_at "cond") => `(tactic| first
  | exact Or.inl (by decide) | exact Or.inr (by decide) | exact Or.inl ⟨by omega, by omega⟩ | exact Or.inr ⟨by omega, by omega⟩
  | (constructor <;> omega) | (show _ ≠ _; omega) | decide | omega)
local macro_rules | `(tactic| walk_at "r1") => `(tactic| first
  | with_reducible refine R.seq ?_ | with_reducible refine R.asg ?_ | with_reducible refine R.ifs ?_ | with_reducible refine R.ret ?_ | with_reducible refine R.retN ?_ | with_reducible refine R.drop ?_ | with_reducible refine R.next ?_
  | with_reducible refine R.op ?_ | ((with_reducible refine R.var (v := ?v) ?h ?q); case h => rfl) | with_reducible refine R.c ?_ | with_reducible refine R.tst ?_ | with_reducible refine R.tb_ ?_ | with_reducible refine R.ex ?_
  | with_reducible refine R.i0 ?_ | with_reducible refine R.eqI ?_ | with_reducible refine R.neI ?_ | ((with_reducible refine R.ic ?_ ?_); · walk_at "cond") | with_reducible refine R.u0 ?_ | with_reducible refine R.un ?_
  | ((with_reducible refine R.eq ?_ ?_); · rfl) | ((with_reducible refine R.ne ?_ ?_); · rfl)
  | with_reducible refine R.and_ ?_ | with_reducible refine R.or_ ?_ | with_reducible refine R.not_ ?_ | with_reducible refine R.ife ?_ | with_reducible refine R.chain ?_
  | with_reducible refine R.cons ?_ | with_reducible refine R.nil ?_ | with_reducible refine R.call ?_ | with_reducible refine R.cb ?_ | with_reducible refine R.bm ?_
  | with_reducible refine R.gname ?_ | with_reducible refine R.gsub ?_ | with_reducible refine R.gnil ?_ | with_reducible refine R.gcons ?_ | with_reducible refine R.yes ?_
  | with_reducible refine R.int1 ?_ | ((with_reducible refine R.lenL (xs := ?xs) ?h ?q); case h => walk_at "at")
  | ((with_reducible refine R.ixL (xs := ?xs) (v := ?v) ?h ?e ?q); (case h => walk_at "at"); (case e => walk_at "ix"))
  | ((with_reducible refine R.setL (xs := ?xs) (n := ?n) ?h ?e ?q); (case h => walk_at "at"); (case e => rfl))
  | ((with_reducible refine R.append (xs := ?xs) ?h ?e ?q); (case h => walk_at "at"); (case e => walk_at "cond"))
  | with_reducible refine R.is_ ?_ | with_reducible refine R.isnot ?_ | with_reducible refine R.andV ?_ | with_reducible refine R.orV ?_ | with_reducible refine R.notV ?_
  | ((with_reducible refine R.isi (s := ?s) (b := ?b) ?ty ?h ?q); (case ty => walk_at "ty"); (case h => walk_at "kit"))
  | ((with_reducible refine R.addS ?h ?q); (case h => walk_at "sz")) | with_reducible refine R.max2 ?_ | with_reducible refine R.min2 ?_
  | ((with_reducible refine R.lenStr ?h ?q); (case h => walk_at "szl")) | ((with_reducible refine R.ixS (n := ?n) ?h ?e ?q); (case h => walk_at "szl"); (case e => walk_at "ix"))
  | ((with_reducible refine R.tyl (xs := ?xs) ?h ?q); (case h => walk_at "at")) | with_reducible refine R.itlist ?_ | with_reducible refine R.ittup ?_ | with_reducible refine R.m1 ?_ | with_reducible refine R.m1s ?_ | with_reducible refine R.leS ?_ | with_reducible refine R.itstr ?_ | with_reducible refine R.itstrE ?_ | with_reducible refine R.lc ?_ | with_reducible refine R.lc2 ?_ | with_reducible refine R.ckw ?_ | with_reducible refine R.par ?_ | with_reducible refine R.parE ?_ | with_reducible refine R.itrev ?_ | with_reducible refine R.dsetd ?_ | with_reducible refine R.dnotin_ ?_ | with_reducible refine R.for_ ?_ | ((with_reducible refine R.all_ (bs := ?bs) ?h ?q); (case h => walk_at "at"))
  | with_reducible refine R.rng1 ?_ | ((with_reducible refine R.rngE ?h ?q); (case h => (constructor <;> omega)))
  | ((with_reducible refine R.lenT (xs := ?xs) ?h ?q); (case h => walk_at "sqt")) | ((with_reducible refine R.ixT (xs := ?xs) (v := ?v) ?h ?e ?q); (case h => walk_at "sqt"); (case e => walk_at "ix"))
  | ((refine R.itlE (xs := ?xs) ?h ?q); (case h => walk_at "at")) | ((refine R.ittE (xs := ?xs) ?h ?q); (case h => walk_at "at"))
  | ((refine R.gseq (xs := ?xs) ?h ?e ?q); (case h => walk_at "sqa"); (case e => rfl)) | ((refine R.ixA (xs := ?xs) (v := ?v) ?h ?e ?q); (case h => walk_at "sqa"); (case e => walk_at "ix")) | ((refine R.lenA (xs := ?xs) ?h ?q); (case h => walk_at "sqa"))
  | ((with_reducible refine R.gtup (xs := ?xs) ?h ?e ?q); (case h => walk_at "sqt"); (case e => rfl))
  | with_reducible refine R.din_ ?_ | with_reducible refine R.dput_ ?_
  | with_reducible refine R.dget2_ ?_ | ((with_reducible refine R.aug_ (x := ?x) ?h ?q); case h => rfl) | with_reducible refine R.ipI_ ?_
  | with_reducible refine R.rng2 ?_ | ((with_reducible refine R.rngE2 ?h ?q); (case h => (refine ⟨?_, ?_, ?_, ?_⟩ <;> omega)))
  | with_reducible refine R.brk ?_ | with_reducible refine R.intB ?_ | with_reducible refine R.meth_ ?_ | ((refine KN.methS (rs := ?rs) (ms := ?ms) ?h (fun _ _ _ _ => rfl) ?q); case h => walk_at "sys")
  | with_reducible refine R.sl_ ?_ | with_reducible refine R.np_ ?_ | with_reducible refine R.pt_ ?_ | with_reducible refine R.ptE ?_ | with_reducible refine R.dget_ ?_ | with_reducible refine R.revL_ ?_
  | ((refine R.dgetS (kvs := ?kvs) (v := ?v) ?h ?e ?q); (case h => walk_at "at"); (case e => walk_at "dk"))
  | with_reducible refine R.sfld ?_ | with_reducible refine R.fld_ ?_ | with_reducible refine R.dc ?_
  | with_reducible refine R.dget1_ ?_
  | with_reducible refine R.itseq ?_ | with_reducible refine R.itenum ?_
  | with_reducible refine R.itT ?_ | with_reducible refine R.itF ?_ | with_reducible refine R.itNT ?_ | with_reducible refine R.itNF ?_
  | (with_reducible refine R.tup ?_) | (with_reducible refine R.lst ?_))
local macro_rules | `(tactic| walk_at "rd") => `(tactic| (repeat (first | walk_at "r1" | (dsimp only [Int.reduceToNat, List.set_cons_succ, List.set_cons_zero, List.length_cons, List.length_nil, List.nil_append, List.cons_append, List.append_nil]))))
local macro_rules | `(tactic| walk_at "go") => `(tactic| (rw [R.start_eq]; dsimp only [R.startE, List.map_nil]; walk_at "rd"))
namespace KN
open PySem L2 SX R
open C8 (Cal Def cal0 pe_c pe_gc fnScope fnBody pss_cut)
theorem passF {X : Cx} : Passes (L2.CX X.prog X.w) X (fun _ _ _ => False) := fun _ _ _ _ _ _ _ ⟨_, _, _, _, _, _, _, _, _, _, _, _, h⟩ => h.elim
section
variable {P : Program} {w : World} {K : PySem.W.Frag} {mg : Str → Option Value} {base : Heap}
abbrev sRows : Stmt := top 32
theorem scRows : FnScope ["pool", "kind"] ["pool"] (fnScope sRows) := ⟨rfl, rfl, rfl, by decide +kernel, rfl, by decide +kernel, by decide +kernel⟩
abbrev sShaped : Stmt := top 33
theorem scShaped : FnScope ["pool", "rows", "found", "row"] ["pool", "rows"] (fnScope sShaped) := ⟨rfl, rfl, rfl, by decide +kernel, rfl, by decide +kernel, by decide +kernel⟩
abbrev sMade : Stmt := top 37
theorem scMade : FnScope ["pool", "rows"] ["pool", "rows"] (fnScope sMade) := ⟨rfl, rfl, rfl, by decide +kernel, rfl, by decide +kernel, by decide +kernel⟩
theorem c_rows (Z : Zs mg) (c_take : Cal P w K mg base 2 "_law_take" spTake []) (c_drawn : Cal P w K mg base 4 "_law_drawn" (spDrawn 30 31 40) []) (c_nearly : Cal P w K mg base 5 "_law_nearly" (spDrawn 5 217 8) []) (c_regular : Cal P w K mg base 4 "_law_regular" spReg [])
    (c_english : Cal P w K mg base 3 "_law_english" (spDrawn 16 1000 99) []) {f : Addr} {fd : FuncData} (F : Def K mg "_law_rows" sRows f fd) (b : Binds K fd ["pool"] []) : Cal P w K mg base 6 "_law_rows" (spDrawn 30 1000 99) [] := by
  refine cal0 F b .nil scRows (fun vs H Q E h => ?_) (fun cdv A outer s H vs Q E hr h => ?_)
  · obtain ⟨p, l, cs, rfl, _⟩ := h
    rfl
  · obtain ⟨p, l, cs, rfl, hP, hl, k⟩ := h
    refine ⟨_, pss_cons (ps_set (i := 1) scRows.nd rfl (Or.inl rfl) (pe_c c_take hr (by omega) (by rfl) (pa_cons (pv 0) (pa_cons pe_int pa_nil))))
      (pss_cons (ps_if (pt_cmpR op_lt (pv 1) pe_int (nomark _))
        (pss_one (ps_ret (pe_c c_drawn hr (by omega) (by rfl) (pa_cons (pv 0) pa_nil))))
        (pss_nil))
      (pss_cons (ps_if (pt_cmpR op_lt (pv 1) pe_int (nomark _))
        (pss_one (ps_ret (pe_c c_nearly hr (by omega) (by rfl) (pa_cons (pv 0) pa_nil))))
        (pss_nil))
      (pss_one (ps_ret (pe_ifExp (pt_cmpR op_eq (pv 1) pe_int (nomark _)) (pe_c c_regular hr (by omega) (by rfl) (pa_cons (pv 0) pa_nil)) (pe_c c_english hr (by omega) (by rfl) (pa_cons (pv 0) pa_nil))))))), ?_⟩
    walk_at "go"
    refine r_take' hP (by omega) (by omega) (fun H1 d1 e1 P1 l1 u1 => ?_)
    have hl1 := e1 _ _ hP.ne hl
    walk_at "rd"
    refine it (fun h1 => ?_) (fun h1 => ?_)
    · walk_at "rd"
      exact ⟨p, l, cs, rfl, P1, hl1, fun H' r rs ms a b c d => k H' r rs ms (e1.trans a) b c (d.mono (by decide) (by decide) (by decide))⟩
    · walk_at "rd"
      refine it (fun h2 => ?_) (fun h2 => ?_)
      · walk_at "rd"
        exact ⟨p, l, cs, rfl, P1, hl1, fun H' r rs ms a b c d => k H' r rs ms (e1.trans a) b c (d.mono (by decide) (by decide) (by decide))⟩
      · walk_at "rd"
        refine it (fun h3 => ?_) (fun h3 => ?_)
        · walk_at "rd"
          exact ⟨p, l, cs, rfl, P1, hl1, fun H' r s m xs ys rs ms _ _ _ a b _ _ c1 c2 c3 c4 c5 d _ => k H' r rs ms (e1.trans a) b ⟨s, m, xs, ys, c1, c2, c3, c4, c5⟩ (d.mono (by decide) (by decide) (by decide))⟩
        · walk_at "rd"
          exact ⟨p, l, cs, rfl, P1, hl1, fun H' r rs ms a b c d => k H' r rs ms (e1.trans a) b c (d.mono (by decide) (by decide) (by decide))⟩
def spShaped : Sp := fun vs H Q _ => ∃ (p l s : Addr) (xs : List V) (ds : List (List V)), vs = [.ref p, .ref s] ∧ PoolAt H p l ∧ H s = some (.lst xs) ∧ TupsAt H xs ds ∧ ds.length ≤ 500 ∧
  ∀ (H' : Hp) (a : Addr), SameBut p H H' → PoolAt H' p l → a ≠ p → (∀ H2, SameBut p H' H2 → RowsIn H2 a ds) → Q (.ref a) H'
structure ShI (H H' : Hp) (p l D : Addr) (ds : List (List V)) (i : Nat) (acc : List V) : Prop where
  sb : SameBut p H H'
  P : PoolAt H' p l
  hD : H' D = some (.lst acc)
  len : acc.length = i
  D0 : H D = none
  Dp : D ≠ p
  Dl : D ≠ l
  it : ∀ (j : Nat) (d : List V), j < i → ds[j]? = some d → ∃ b, acc[j]? = some (.ref b) ∧ b ≠ p ∧ b ≠ D ∧ SeqA H' b d
theorem seqA_but {H H' : Hp} {b p : Addr} {d : List V} (e : SameBut p H H') (n : b ≠ p) (h : SeqA H b d) : SeqA H' b d := h.elim (fun z => .inl (e _ _ n z)) (fun z => .inr (e _ _ n z))
theorem ShI.take {H H' H2 : Hp} {p l D : Addr} {ds : List (List V)} {i : Nat} {acc : List V} (S : ShI H H' p l D ds i acc) (e : SameBut p H' H2) (P : PoolAt H2 p l) : ShI H H2 p l D ds i acc :=
  ⟨S.sb.trans e, P, e _ _ S.Dp S.hD, S.len, S.D0, S.Dp, S.Dl, fun j d h1 h2 => by obtain ⟨b, q1, q2, q3, q4⟩ := S.it j d h1 h2; exact ⟨b, q1, q2, q3, seqA_but e q2 q4⟩⟩
theorem ShI.app {H H' : Hp} {p l D b : Addr} {ds : List (List V)} {i : Nat} {acc : List V} {d : List V} (S : ShI H H' p l D ds i acc) (h : SeqA H' b d) (hd : ds[i]? = some d) (bp : b ≠ p) (bD : b ≠ D) : ShI H (upd H' D (.lst (acc ++ [.ref b]))) p l D ds (i + 1) (acc ++ [.ref b]) := by
  have keep : ∀ c d', c ≠ D → SeqA H' c d' → SeqA (upd H' D (.lst (acc ++ [.ref b]))) c d' := fun c d' n z => z.elim (fun z => .inl (by rw [upd_ne n]; exact z)) (fun z => .inr (by rw [upd_ne n]; exact z))
  refine ⟨S.sb.put' S.D0, S.P.put S.Dp S.Dl, upd_same, by rw [List.length_append, S.len]; rfl, S.D0, S.Dp, S.Dl, fun j d' h1 h2 => ?_⟩
  by_cases q : j < i
  · obtain ⟨c, q1, q2, q3, q4⟩ := S.it j d' q h2
    exact ⟨c, by rw [List.getElem?_append_left (by rw [S.len]; exact q)]; exact q1, q2, q3, keep c d' q3 q4⟩
  · have : j = i := by omega
    subst this
    rw [hd] at h2
    cases h2
    exact ⟨b, by rw [List.getElem?_append_right (by rw [S.len]; exact Nat.le_refl _), S.len, Nat.sub_self]; rfl, bp, bD, keep b d bD h⟩
theorem c_shaped (Z : Zs mg) (c_take : Cal P w K mg base 2 "_law_take" spTake []) {f : Addr} {fd : FuncData} (F : Def K mg "_law_shaped" sShaped f fd) (b : Binds K fd ["pool", "rows"] []) : Cal P w K mg base 3 "_law_shaped" spShaped [] := by
  refine cal0 F b .nil scShaped (fun vs H Q E h => ?_) (fun cdv A outer s H vs Q E hr h => ?_)
  · obtain ⟨p, l, s, xs, ds, rfl, _⟩ := h
    rfl
  · obtain ⟨p, l, s, xs, ds, rfl, hP, hs, hts, hdl, k⟩ := h
    refine ⟨_, pss_cons (ps_setLc (i := 2) (own := [("row", 3)]) (g := gName 3) (tt := tYes) rfl scShaped.nd rfl rfl (sw_true rfl rfl rfl (by decide +kernel)) (kiL K (pv 1)) (blkOk_by (own := [("row", 3)]) (N := ["pool", "rows", "found", "row"]) (sc := fnScope sShaped) (by decide +kernel)) (fun _ _ _ _ _ => (pg_name (i := 3) scShaped.nd rfl (Or.inl rfl))) (fun _ _ _ _ _ => pts_nil) (fun _ _ _ _ _ => pe_ix (kIxT K) (pe_tup (pa_cons (pe_callTy (kList K) (by rfl) Z.list (by decide +kernel) (pa_cons (pv 3) pa_nil)) (pa_cons (pv 3) pa_nil))) (pe_c c_take hr (by omega) (by rfl) (pa_cons (pv 0) (pa_cons pe_int pa_nil))) (fun _ _ => rfl)))
      (pss_one (ps_ret (pe_ix (kIxT K) (pe_tup (pa_cons (pv 2) (pa_cons (pe_callTy (kTuple K) (by rfl) Z.tuple (by decide +kernel) (pa_cons (pv 2) pa_nil)) pa_nil))) (pe_c c_take hr (by omega) (by rfl) (pa_cons (pv 0) (pa_cons pe_int pa_nil))) (fun _ _ => rfl)))), ?_⟩
    have lx := hts.len
    have sp := tups_ne hP hs hts
    walk_at "go"
    intro D hD
    obtain ⟨Dp, Dl⟩ := hP.nep hD
    refine lc_it (walk_list (K := K) (a := s) (xs := xs)) (fun i H' => ∃ acc, ShI H H' p l D ds i acc)
      ⟨[], SameBut.refl.new hD, hP.new hD, upd_same, rfl, hD, Dp, Dl, fun j d h => absurd h (Nat.not_lt_zero _)⟩ (fun i H' _ hh => by obtain ⟨acc, hh⟩ := hh; exact SqL.of (hh.sb _ _ sp hs)) ?_ ?_
    · rintro i x H1 H1' hi ⟨acc, S1⟩ ⟨rfl, hx⟩
      have hi' : i < ds.length := by omega
      have hdi : ds[i]? = some ds[i] := List.getElem?_eq_getElem hi'
      obtain ⟨a, hya, ha⟩ := hts.get i ds[i] hdi
      rw [hya] at hx
      cases hx
      have ap : a ≠ p := by
        rintro rfl
        obtain ⟨⟨_, _, _, _, h1, _⟩, _⟩ := hP
        rw [h1] at ha
        cases ha
      have ha1 := S1.sb _ _ ap ha
      have aD : a ≠ D := ne_of_none ha hD
      refine R.gname ⟨rfl, ?_⟩
      walk_at "rd"
      refine R.listT (SqT.of ha1) fun b2 hb2 => R.gen hb2 fun H2 s2 h2 => ?_
      have S2 := S1.take (SameBut.of s2) (S1.P.same s2)
      have ha2 := s2 _ _ ha1
      have b2p := (S1.P.nep hb2).1
      have b2D : b2 ≠ D := (ne_of_none S1.hD hb2).symm
      walk_at "rd"
      refine ⟨by decide, fun t ht => R.gen ht fun H3 s3 h3 => ?_⟩
      have S3 := S2.take (SameBut.of s3) (S2.P.same s3)
      have ha3 := s3 _ _ ha2
      have hb3 := s3 _ _ h2
      have tp := (S2.P.nep ht).1
      walk_at "rd"
      refine r_take' S3.P (by decide) (by decide) (fun H4 d4 e4 P4 l4 u4 => ?_)
      have S4 := S3.take e4 P4
      have h4 := e4 _ _ tp h3
      have hc : d4 = 0 ∨ d4 = 1 := by omega
      rcases hc with rfl | rfl
      · refine R.ixT (SqT.of h4) (v := .ref b2) rfl ?_
        exact ⟨acc, S4.hD, small1000 (by rw [S4.len]; omega), _, S4.app (.inl (e4 _ _ b2p hb3)) hdi b2p b2D⟩
      · refine R.ixT (SqT.of h4) (v := .ref a) rfl ?_
        exact ⟨acc, S4.hD, small1000 (by rw [S4.len]; omega), _, S4.app (.inr (e4 _ _ ap ha3)) hdi ap aD⟩
    · rintro H1 ⟨acc, S1⟩
      have hD1 := S1.hD
      walk_at "rd"
      refine R.tupL hD1 fun t ht => R.gen ht fun H2 s2 h2 => ?_
      have S2 := S1.take (SameBut.of s2) (S1.P.same s2)
      have tp := (S1.P.nep ht).1
      walk_at "rd"
      refine ⟨by decide, fun u hu => R.gen hu fun H3 s3 h3 => ?_⟩
      have S3 := S2.take (SameBut.of s3) (S2.P.same s3)
      have ht3 := s3 _ _ h2
      have up := (S2.P.nep hu).1
      walk_at "rd"
      refine r_take' S3.P (by decide) (by decide) (fun H4 d4 e4 P4 l4 u4 => ?_)
      have S4 := S3.take e4 P4
      have h4 := e4 _ _ up h3
      have items : ∀ (H5 : Hp), SameBut p H4 H5 → ∀ (i : Nat) (d : List V), ds[i]? = some d → ∃ b, acc[i]? = some (.ref b) ∧ SeqA H5 b d := fun H5 e5 i d hd => by
        have hi := (List.getElem?_eq_some_iff.mp hd).1
        obtain ⟨b, q1, q2, q3, q4⟩ := S4.it i d (by omega) hd
        exact ⟨b, q1, seqA_but e5 q2 q4⟩
      have hc : d4 = 0 ∨ d4 = 1 := by omega
      rcases hc with rfl | rfl
      · refine R.ixT (SqT.of h4) (v := .ref D) rfl ?_
        exact k H4 D S4.sb P4 Dp fun H5 e5 => ⟨acc, .inl (e5 _ _ Dp S4.hD), by rw [S4.len, lx], items H5 e5⟩
      · refine R.ixT (SqT.of h4) (v := .ref t) rfl ?_
        exact k H4 t S4.sb P4 tp fun H5 e5 => ⟨acc, .inr (e5 _ _ tp (e4 _ _ tp ht3)), by rw [S4.len, lx], items H5 e5⟩
def spMade (S : Addr) : Sp := fun vs H Q _ => ∃ (p l r : Addr) (rs : List SR) (ms : List MR), vs = [.ref p, .ref r] ∧ PoolAt H p l ∧ RowsAt H r rs ms ∧ GoodSys rs ms ∧
  ∀ (H' : Hp) (x : Addr), SameBut p H H' → PoolAt H' p l → SysAt S H' x rs ms → Q (.ref x) H'
theorem c_made (Z : Zs mg) {S C fS : Addr} {fdS : FuncData} (gS : mg "System" = some (.ref S)) (MS : Mk K S fS) (GS : FnOk P w K mg base (L2.CX P w) 4 fS fdS ["self", "simple", "multipliers"] (spSysI S C)) (bS : Binds K fdS ["self", "simple", "multipliers"] [])
    (c_shaped : Cal P w K mg base 3 "_law_shaped" spShaped []) {f : Addr} {fd : FuncData} (F : Def K mg "_law_made" sMade f fd) (b : Binds K fd ["pool", "rows"] []) : Cal P w K mg base 6 "_law_made" (spMade S) [] := by
  refine cal0 F b .nil scMade (fun vs H Q E h => ?_) (fun cdv A outer s H vs Q E hr h => ?_)
  · obtain ⟨p, l, r, rs, ms, rfl, _⟩ := h
    rfl
  · obtain ⟨p, l, r, rs, ms, rfl, hP, hR, hg, k⟩ := h
    refine ⟨_, pss_one (ps_ret (pe_make MS GS (hr.mono (by omega)) rfl gS bS .nil passF (pa_cons (pe_c c_shaped hr (by omega) (by rfl) (pa_cons (pv 0) (pa_cons (pe_dget (hu_of hr) (pv 1) pe_str (fun _ _ => rfl)) pa_nil))) (pa_cons (pe_c c_shaped hr (by omega) (by rfl) (pa_cons (pv 0) (pa_cons (pe_dget (hu_of hr) (pv 1) pe_str (fun _ _ => rfl)) pa_nil))) pa_nil)))), ?_⟩
    obtain ⟨s, m, xs, ys, hr0, hs, hts, hm, htm⟩ := id hR
    have sl := hg.sl
    have ml := hg.ml
    walk_at "go"
    unfold tMake
    walk_at "rd"
    refine ⟨p, l, s, xs, _, rfl, hP, hs, hts, by rw [List.length_map]; omega, fun H1 a e1 P1 ap ra => ?_⟩
    obtain ⟨s', m', xs', ys', hr1, hs1, hts1, hm1, htm1⟩ := hR.pool hP e1
    walk_at "rd"
    refine ⟨p, l, m', ys', _, rfl, P1, hm1, htm1, by rw [List.length_map]; omega, fun H2 c e2 P2 cp rc => ?_⟩
    walk_at "rd"
    intro x dx hx hdx ndx
    have s0 : Same H2 (upd (upd H2 dx (.own x)) x (.ins S dx [])) := same_put (same_put (Same.refl H2) hdx) hx
    have e3 : SameBut p H1 (upd (upd H2 dx (.own x)) x (.ins S dx [])) := e2.trans (SameBut.of s0)
    refine ⟨x, dx, a, c, rs.map srV, ms.map mrV, rfl, upd_same, ra _ e3, rc _ (SameBut.of s0), .inr ⟨rs, ms, rfl, rfl, hg, fun H3 e4 hsys => ?_⟩⟩
    have xp := (P2.nep hx).1
    have xl := (P2.nep hx).2
    have e5 : SameBut p H2 H3 := fun b o hb h => e4 b o (ne_of_none h hx) (s0 _ _ h)
    have P3 : PoolAt H3 p l := by
      have := P2.same s0
      obtain ⟨⟨cs, i, d, z, q1, q2, q3⟩, q4⟩ := this
      exact ⟨⟨cs, i, d, z, e4 _ _ xp.symm q1, e4 _ _ xl.symm q2, q3⟩, q4⟩
    exact ⟨rfl, k H3 x ((e1.trans e2).trans e5) P3 hsys⟩
end
end KN
end
section
set_option Elab.async false
set_option linter.all false
set_option maxRecDepth 100000
set_option maxHeartbeats 4000000
set_option pp.maxSteps 1500
set_option pp.deepTerms false
local macro_rules | `(tactic| walk_at "ne") => `(tactic| first
  | assumption | (apply Ne.symm; assumption)
  | exact R.ne_new (by assumption) | exact (R.ne_new (by assumption)).symm
  | exact L2.ne_of_none (by assumption) (by assumption) | exact (L2.ne_of_none (by assumption) (by assumption)).symm
  | exact L2.ne_of_none (by assumption) (R.free_new (by assumption)) | exact (L2.ne_of_none (by assumption) (R.free_new (by assumption))).symm)
local macro_rules | `(tactic| walk_at "at") => `(tactic| first
  | assumption | exact L2.upd_same
  | (refine R.sb (H := ?H) (p := ?p) ?e ?n ?h; (case e => assumption); (case n => walk_at "ne"); (case h => walk_at "at"))
  | (refine R.sm (H := ?H) ?e ?h; (case e => assumption); (case h => walk_at "at"))
  | (refine Eq.trans (L2.upd_ne ?_) ?_ <;> first | walk_at "ne" | walk_at "at"))
local macro_rules | `(tactic| walk_at "sqt") => `(tactic| first | assumption | (refine L2.SqT.of ?_; walk_at "at"))
local macro_rules | `(tactic| walk_at "ty") => `(tactic| first | exact R.tyN | exact R.tyB | exact R.tyI | exact R.tyS | (refine R.tyT (xs := ?xs) ?h; case h => walk_at "at") | (refine R.tyL (xs := ?xs) ?h; case h => walk_at "at"))
local macro_rules | `(tactic| walk_at "kit") => `(tactic| first | exact R.kit_NoneType_tuple | exact R.kit_NoneType_list | exact R.kit_NoneType_bool | exact R.kit_NoneType_str | exact R.kit_NoneType_int | exact R.kit_bool_tuple | exact R.kit_bool_list | exact R.kit_bool_bool | exact R.kit_bool_str | exact R.kit_bool_int | exact R.kit_int_tuple | exact R.kit_int_list | exact R.kit_int_bool | exact R.kit_int_str | exact R.kit_int_int | exact R.kit_str_tuple | exact R.kit_str_list | exact R.kit_str_bool | exact R.kit_str_str | exact R.kit_str_int | exact R.kit_tuple_tuple | exact R.kit_tuple_list | exact R.kit_tuple_bool | exact R.kit_tuple_str | exact R.kit_tuple_int | exact R.kit_list_tuple | exact R.kit_list_list | exact R.kit_list_bool | exact R.kit_list_str | exact R.kit_list_int)
local macro_rules | `(tactic| walk_at "sz") => `(tactic| first | assumption | (refine Nat.le_trans ?_ (show 1000 ≤ PySem.sizeLine by decide); omega) | decide)
local macro_rules | `(tactic| walk_at "szl") => `(tactic| first | assumption | exact Nat.le_of_lt (L2.small1000 (by omega)) | decide | decide +kernel)
local macro_rules | `(tactic| walk_at "sys") => `(tactic| first | assumption | exact KN.SysAt.same (by assumption) (by assumption))
local macro_rules | `(tactic| walk_at "dk") => `(tactic| first | exact R.rowsS _ _ | exact R.rowsM _ _)
local macro_rules | `(tactic| walk_at "sqa") => `(tactic| first | assumption | exact R.SeqA.same (by assumption) (by assumption) | exact R.SeqA.new (by assumption) (by assumption) | (exact Or.inl (by walk_at "at")) | (exact Or.inr (by walk_at "at")))
local macro_rules | `(tactic| walk_at "ix") => `(tactic| first | rfl | (exact L2.atI_nat (by assumption)) | assumption)
local macro_rules | `(tactic| walk_at "cond") => `(tactic| first
  | exact Or.inl (by decide) | exact Or.inr (by decide) | exact Or.inl ⟨by omega, by omega⟩ | exact Or.inr ⟨by omega, by omega⟩
  | (constructor <;> omega) | (show _ ≠ _; omega) | decide | omega)
local macro_rules | `(tactic| walk_at "r1") => `(tactic| first
  | with_reducible refine R.seq ?_ | with_reducible refine R.asg ?_ | with_reducible refine R.ifs ?_ | with_reducible refine R.ret ?_ | with_reducible refine R.retN ?_ | with_reducible refine R.drop ?_ | with_reducible refine R.next ?_
  | with_reducible refine R.op ?_ | ((with_reducible refine R.var (v := ?v) ?h ?q); case h => rfl) | with_reducible refine R.c ?_ | with_reducible refine R.tst ?_ | with_reducible refine R.tb_ ?_ | with_reducible refine R.ex ?_
  | with_reducible refine R.i0 ?_ | with_reducible refine R.eqI ?_ | with_reducible refine R.neI ?_ | ((with_reducible refine R.ic ?_ ?_); · walk_at "cond") | with_reducible refine R.u0 ?_ | with_reducible refine R.un ?_
  | ((with_reducible refine R.eq ?_ ?_); · rfl) | ((with_reducible refine R.ne ?_ ?_); · rfl)
  | with_reducible refine R.and_ ?_ | with_reducible refine R.or_ ?_ | with_reducible refine R.not_ ?_ | with_reducible refine R.ife ?_ | with_reducible refine R.chain ?_
  | with_reducible refine R.cons ?_ | with_reducible refine R.nil ?_ | with_reducible refine R.call ?_ | with_reducible refine R.cb ?_ | with_reducible refine R.bm ?_
  | with_reducible refine R.gname ?_ | with_reducible refine R.gsub ?_ | with_reducible refine R.gnil ?_ | with_reducible refine R.gcons ?_ | with_reducible refine R.yes ?_
  | with_reducible refine R.int1 ?_ | ((with_reducible refine R.lenL (xs := ?xs) ?h ?q); case h => walk_at "at")
  | ((with_reducible refine R.ixL (xs := ?xs) (v := ?v) ?h ?e ?q); (case h => walk_at "at"); (case e => walk_at "ix"))
  | ((with_reducible refine R.setL (xs := ?xs) (n := ?n) ?h ?e ?q); (case h => walk_at "at"); (case e => rfl))
  | ((with_reducible refine R.append (xs := ?xs) ?h ?e ?q); (case h => walk_at "at"); (case e => walk_at "cond"))
  | with_reducible refine R.is_ ?_ | with_reducible refine R.isnot ?_ | with_reducible refine R.andV ?_ | with_reducible refine R.orV ?_ | with_reducible refine R.notV ?_
  | ((with_reducible refine R.isi (s := ?s) (b := ?b) ?ty ?h ?q); (case ty => walk_at "ty"); (case h => walk_at "kit"))
  | ((with_reducible refine R.addS ?h ?q); (case h => walk_at "sz")) | with_reducible refine R.max2 ?_ | with_reducible refine R.min2 ?_
  | ((with_reducible refine R.lenStr ?h ?q); (case h => walk_at "szl")) | ((with_reducible refine R.ixS (n := ?n) ?h ?e ?q); (case h => walk_at "szl"); (case e => walk_at "ix"))
  | ((with_reducible refine R.tyl (xs := ?xs) ?h ?q); (case h => walk_at "at")) | with_reducible refine R.itlist ?_ | with_reducible refine R.ittup ?_ | with_reducible refine R.m1 ?_ | with_reducible refine R.m1s ?_ | with_reducible refine R.leS ?_ | with_reducible refine R.itstr ?_ | with_reducible refine R.itstrE ?_ | with_reducible refine R.lc ?_ | with_reducible refine R.lc2 ?_ | with_reducible refine R.ckw ?_ | with_reducible refine R.par ?_ | with_reducible refine R.parE ?_ | with_reducible refine R.itrev ?_ | with_reducible refine R.dsetd ?_ | with_reducible refine R.dnotin_ ?_ | with_reducible refine R.for_ ?_ | ((with_reducible refine R.all_ (bs := ?bs) ?h ?q); (case h => walk_at "at"))
  | with_reducible refine R.rng1 ?_ | ((with_reducible refine R.rngE ?h ?q); (case h => (constructor <;> omega)))
  | ((with_reducible refine R.lenT (xs := ?xs) ?h ?q); (case h => walk_at "sqt")) | ((with_reducible refine R.ixT (xs := ?xs) (v := ?v) ?h ?e ?q); (case h => walk_at "sqt"); (case e => walk_at "ix"))
  | ((refine R.itlE (xs := ?xs) ?h ?q); (case h => walk_at "at")) | ((refine R.ittE (xs := ?xs) ?h ?q); (case h => walk_at "at"))
  | ((refine R.gseq (xs := ?xs) ?h ?e ?q); (case h => walk_at "sqa"); (case e => rfl)) | ((refine R.ixA (xs := ?xs) (v := ?v) ?h ?e ?q); (case h => walk_at "sqa"); (case e => walk_at "ix")) | ((refine R.lenA (xs := ?xs) ?h ?q); (case h => walk_at "sqa"))
  | ((with_reducible refine R.gtup (xs := ?xs) ?h ?e ?q); (case h => walk_at "sqt"); (case e => rfl))
  | with_reducible refine R.din_ ?_ | with_reducible refine R.dput_ ?_
  | with_reducible refine R.dget2_ ?_ | ((with_reducible refine R.aug_ (x := ?x) ?h ?q); case h => rfl) | with_reducible refine R.ipI_ ?_
  | with_reducible refine R.rng2 ?_ | ((with_reducible refine R.rngE2 ?h ?q); (case h => (refine ⟨?_, ?_, ?_, ?_⟩ <;> omega)))
  | with_reducible refine R.brk ?_ | with_reducible refine R.intB ?_ | with_reducible refine R.meth_ ?_ | ((refine KN.methS (rs := ?rs) (ms := ?ms) ?h (fun _ _ _ _ => rfl) ?q); case h => walk_at "sys")
  | with_reducible refine R.sl_ ?_ | with_reducible refine R.np_ ?_ | with_reducible refine R.pt_ ?_ | with_reducible refine R.ptE ?_ | with_reducible refine R.dget_ ?_ | with_reducible refine R.revL_ ?_
  | ((refine R.dgetS (kvs := ?kvs) (v := ?v) ?h ?e ?q); (case h => walk_at "at"); (case e => walk_at "dk"))
  | with_reducible refine R.sfld ?_ | with_reducible refine R.fld_ ?_ | with_reducible refine R.dc ?_
  | with_reducible refine R.dget1_ ?_
  | with_reducible refine R.itseq ?_ | with_reducible refine R.itenum ?_
  | with_reducible refine R.itT ?_ | with_reducible refine R.itF ?_ | with_reducible refine R.itNT ?_ | with_reducible refine R.itNF ?_
  | (with_reducible refine R.tup ?_) | (with_reducible refine R.lst ?_))
local macro_rules | `(tactic| walk_at "rd") => `(tactic| (repeat (first | walk_at "r1" | (dsimp only [Int.reduceToNat, List.set_cons_succ, List.set_cons_zero, List.length_cons, List.length_nil, List.nil_append, List.cons_append, List.append_nil]))))
local macro_rules | `(tactic| walk_at "go") => `(tactic| (rw [R.start_eq]; dsimp only [R.startE, List.map_nil]; walk_at "rd"))
namespace KN
open PySem L2 SX R
def bmax (rs : List SR) (ms : List MR) : Int := bmm (bms 0 rs) ms
def endF (ms : List MR) : Option MR := ms.find? fun m => m.c.isNone
def edgeF (rs : List SR) (ms : List MR) : Int := match endF ms with
  | none => bmax rs ms + 1
  | some m => mx (bmax rs ms) m.v + m.v
theorem mx_l (a b : Int) : a ≤ mx a b := by unfold mx; split <;> omega
theorem mx_r (a b : Int) : b ≤ mx a b := by unfold mx; split <;> omega
theorem mx_or (a b : Int) : mx a b = a ∨ mx a b = b := by unfold mx; split <;> simp
theorem bms_max : ∀ (rs : List SR) (g : Int), g ≤ bms g rs ∧ (∀ r ∈ rs, r.v ≤ bms g rs) ∧ (bms g rs = g ∨ ∃ r ∈ rs, bms g rs = r.v)
  | [], g => ⟨Int.le_refl _, (fun r h => nomatch h), .inl rfl⟩
  | a :: rs, g => by
    obtain ⟨h1, h2, h3⟩ := bms_max rs (mx g a.v)
    have e : bms g (a :: rs) = bms (mx g a.v) rs := rfl
    rw [e]
    refine ⟨Int.le_trans (mx_l _ _) h1, fun r hr => ?_, ?_⟩
    · rcases List.mem_cons.mp hr with rfl | h
      · exact Int.le_trans (mx_r _ _) h1
      · exact h2 r h
    · rcases h3 with h | ⟨r, hr, h⟩
      · rcases mx_or g a.v with q | q
        · exact .inl (h.trans q)
        · exact .inr ⟨a, List.mem_cons_self, h.trans q⟩
      · exact .inr ⟨r, List.mem_cons_of_mem _ hr, h⟩
theorem bmm_max : ∀ (ms : List MR) (g : Int), g ≤ bmm g ms ∧ (∀ m ∈ ms, ∀ c, m.c = some c → c * m.v + m.r ≤ bmm g ms) ∧ (bmm g ms = g ∨ ∃ m ∈ ms, ∃ c, m.c = some c ∧ bmm g ms = c * m.v + m.r)
  | [], g => ⟨Int.le_refl _, (fun r h => nomatch h), .inl rfl⟩
  | a :: ms, g => by
    cases hc : a.c with
    | none =>
      have e : bmm g (a :: ms) = bmm g ms := by show bmm (match a.c with | none => g | some c => _) ms = _; rw [hc]
      obtain ⟨h1, h2, h3⟩ := bmm_max ms g
      rw [e]
      refine ⟨h1, fun m hm c hcm => ?_, ?_⟩
      · rcases List.mem_cons.mp hm with rfl | h
        · rw [hc] at hcm; cases hcm
        · exact h2 m h c hcm
      · rcases h3 with h | ⟨m, hm, h⟩
        · exact .inl h
        · exact .inr ⟨m, List.mem_cons_of_mem _ hm, h⟩
    | some x =>
      have e : bmm g (a :: ms) = bmm (mx g (x * a.v + a.r)) ms := by show bmm (match a.c with | none => g | some c => _) ms = _; rw [hc]
      obtain ⟨h1, h2, h3⟩ := bmm_max ms (mx g (x * a.v + a.r))
      rw [e]
      refine ⟨Int.le_trans (mx_l _ _) h1, fun m hm c hcm => ?_, ?_⟩
      · rcases List.mem_cons.mp hm with rfl | h
        · rw [hc] at hcm; cases hcm; exact Int.le_trans (mx_r _ _) h1
        · exact h2 m h c hcm
      · rcases h3 with h | ⟨m, hm, h⟩
        · rcases mx_or g (x * a.v + a.r) with q | q
          · exact .inl (h.trans q)
          · exact .inr ⟨a, List.mem_cons_self, x, hc, h.trans q⟩
        · exact .inr ⟨m, List.mem_cons_of_mem _ hm, h⟩
/-- the values that bound a system -/
def bvals : List MR → List Int
  | [] => []
  | m :: ms => match m.c with | none => bvals ms | some c => (c * m.v + m.r) :: bvals ms
theorem bvals_snoc : ∀ (ms : List MR) (m : MR), bvals (ms ++ [m]) = bvals ms ++ (match m.c with | none => [] | some c => [c * m.v + m.r])
  | [], m => by
    show bvals [m] = _
    unfold bvals
    cases m.c <;> rfl
  | a :: ms, m => by
    have ih := bvals_snoc ms m
    rw [List.cons_append]
    unfold bvals
    cases a.c with
    | none => exact ih
    | some c => dsimp only; rw [ih]; rfl
theorem mem_bvals : ∀ {ms : List MR} {x : Int}, x ∈ bvals ms ↔ ∃ m ∈ ms, ∃ c, m.c = some c ∧ x = c * m.v + m.r
  | [], x => by simp [bvals]
  | a :: ms, x => by
    have ih := mem_bvals (ms := ms) (x := x)
    unfold bvals
    cases hc : a.c with
    | none =>
      dsimp only
      rw [ih]
      constructor
      · rintro ⟨m, hm, h⟩; exact ⟨m, List.mem_cons_of_mem _ hm, h⟩
      · rintro ⟨m, hm, c, h1, h2⟩
        rcases List.mem_cons.mp hm with rfl | h
        · rw [hc] at h1; cases h1
        · exact ⟨m, h, c, h1, h2⟩
    | some y =>
      dsimp only
      rw [List.mem_cons, ih]
      constructor
      · rintro (h | ⟨m, hm, h⟩)
        · exact ⟨a, List.mem_cons_self, y, hc, h⟩
        · exact ⟨m, List.mem_cons_of_mem _ hm, h⟩
      · rintro ⟨m, hm, c, h1, h2⟩
        rcases List.mem_cons.mp hm with rfl | h
        · rw [hc] at h1; cases h1; exact .inl h2
        · exact .inr ⟨m, h, c, h1, h2⟩
theorem bvals_len : ∀ ms : List MR, (bvals ms).length ≤ ms.length
  | [] => Nat.le_refl _
  | a :: ms => by
    have ih := bvals_len ms
    unfold bvals
    cases a.c with
    | none => dsimp only; rw [List.length_cons]; omega
    | some c => dsimp only; rw [List.length_cons, List.length_cons]; omega
theorem bmax_eq {rs : List SR} {ms : List MR} {m : Int} (h1 : m ∈ [0] ++ rs.map (·.v) ++ bvals ms) (h2 : ∀ y ∈ [0] ++ rs.map (·.v) ++ bvals ms, y ≤ m) : m = bmax rs ms := by
  obtain ⟨a1, a2, a3⟩ := bms_max rs 0
  obtain ⟨b1, b2, b3⟩ := bmm_max ms (bms 0 rs)
  have up : m ≤ bmax rs ms := by
    unfold bmax
    rcases List.mem_append.mp h1 with h | h
    · rcases List.mem_append.mp h with h | h
      · rw [List.mem_singleton.mp h]; omega
      · obtain ⟨r, hr, rfl⟩ := List.mem_map.mp h
        have := a2 r hr
        omega
    · obtain ⟨q, hq, c, hc, rfl⟩ := mem_bvals.mp h
      exact b2 q hq c hc
  have lo : bmax rs ms ≤ m := by
    refine h2 _ ?_
    unfold bmax
    rcases b3 with h | ⟨q, hq, c, hc, h⟩
    · rw [h]
      rcases a3 with g | ⟨r, hr, g⟩
      · rw [g]; simp
      · rw [g]
        exact List.mem_append_left _ (List.mem_append_right _ (List.mem_map.mpr ⟨r, hr, rfl⟩))
    · rw [h]
      exact List.mem_append_right _ (mem_bvals.mpr ⟨q, hq, c, hc, rfl⟩)
  omega
def spRows1 (F : List SR → List MR → V) : Sp := fun vs H Q _ => ∃ (r : Addr) (rs : List SR) (ms : List MR), vs = [.ref r] ∧ RowsAt H r rs ms ∧ GoodSys rs ms ∧ ∀ H', Same H H' → Q (F rs ms) H'
theorem good_mv {rs : List SR} {ms : List MR} (g : GoodSys rs ms) {i : Nat} {m : MR} (h : ms[i]? = some m) : 2 ≤ m.v ∧ m.v ≤ 100000 := ⟨(g.m m (List.mem_of_getElem? h)).lo, (g.m m (List.mem_of_getElem? h)).hi⟩
theorem bmax_le {rs : List SR} {ms : List MR} (g : GoodSys rs ms) : bmax rs ms ≤ 100000 ∧ 0 ≤ bmax rs ms := by
  obtain ⟨a1, a2, a3⟩ := bms_max rs 0
  obtain ⟨b1, b2, b3⟩ := bmm_max ms (bms 0 rs)
  have h1 : bms 0 rs ≤ 100000 := by
    rcases a3 with h | ⟨r, hr, h⟩
    · omega
    · have := (g.s r hr).hi; omega
  unfold bmax
  refine ⟨?_, by omega⟩
  rcases b3 with h | ⟨m, hm, c, hc, h⟩
  · omega
  · have := ((g.m m hm).c c hc).2.2; omega
theorem r_bm {S x : Addr} {rs : List SR} {ms : List MR} {H : Hp} {Q : VK} {E : XK} (h : SysAt S H x rs ms) (g : GoodSys rs ms) (q : Q (.int (bmax rs ms)) H) : spBm S [.ref x] H Q E :=
  ⟨x, rs, ms, rfl, h, fun m hm => ⟨(g.m m hm).lo, (g.m m hm).hi⟩, q⟩
theorem r_el {S x : Addr} {rs : List SR} {ms : List MR} {H : Hp} {Q : VK} {E : XK} (h : SysAt S H x rs ms) (q1 : ∀ m b, endF ms = some m → H b = some (.tup [.str m.w, .int m.v, ocnt m.c, .bl m.u, .int m.r]) → Q (.ref b) H) (q2 : endF ms = none → Q .non H) : spEl S [.ref x] H Q E := by
  refine ⟨x, rs, ms, rfl, h, ?_⟩
  cases e : endF ms with
  | none =>
    refine .inr ⟨fun m hm hc => ?_, q2 e⟩
    have := List.find?_eq_none.mp e m hm
    rw [hc] at this
    exact this rfl
  | some m =>
    obtain ⟨h1, as, bs, h2, h3⟩ := List.find?_eq_some_iff_append.mp e
    refine .inl ⟨as.length, m, by rw [h2]; simp, Option.isNone_iff_eq_none.mp h1, fun j m' hj hm' hc => ?_, fun b hb => q1 m b e hb⟩
    rw [h2, List.getElem?_append_left hj] at hm'
    have := h3 m' (List.mem_of_getElem? hm')
    rw [hc] at this
    cases this
def spSys1 (S : Addr) (F : List SR → List MR → V) : Sp := fun vs H Q _ => ∃ (x : Addr) (rs : List SR) (ms : List MR), vs = [.ref x] ∧ SysAt S H x rs ms ∧ GoodSys rs ms ∧ Q (F rs ms) H
end KN
end
section
set_option Elab.async false
set_option linter.all false
set_option maxRecDepth 100000
set_option maxHeartbeats 4000000
set_option pp.maxSteps 1500
set_option pp.deepTerms false
local macro_rules | `(tactic| walk_at "ne") => `(tactic| first
  | assumption | (apply Ne.symm; assumption)
  | exact R.ne_new (by assumption) | exact (R.ne_new (by assumption)).symm
  | exact L2.ne_of_none (by assumption) (by assumption) | exact (L2.ne_of_none (by assumption) (by assumption)).symm
  | exact L2.ne_of_none (by assumption) (R.free_new (by assumption)) | exact (L2.ne_of_none (by assumption) (R.free_new (by assumption))).symm)
local macro_rules | `(tactic| walk_at "at") => `(tactic| first
  | assumption | exact L2.upd_same
  | (refine R.sb (H := ?H) (p := ?p) ?e ?n ?h; (case e => assumption); (case n => walk_at "ne"); (case h => walk_at "at"))
  | (refine R.sm (H := ?H) ?e ?h; (case e => assumption); (case h => walk_at "at"))
  | (refine Eq.trans (L2.upd_ne ?_) ?_ <;> first | walk_at "ne" | walk_at "at"))
local macro_rules | `(tactic| walk_at "sqt") => `(tactic| first | assumption | (refine L2.SqT.of ?_; walk_at "at"))
local macro_rules | `(tactic| walk_at "ty") => `(tactic| first | exact R.tyN | exact R.tyB | exact R.tyI | exact R.tyS | (refine R.tyT (xs := ?xs) ?h; case h => walk_at "at") | (refine R.tyL (xs := ?xs) ?h; case h => walk_at "at"))
local macro_rules | `(tactic| walk_at "kit") => `(tactic| first | exact R.kit_NoneType_tuple | exact R.kit_NoneType_list | exact R.kit_NoneType_bool | exact R.kit_NoneType_str | exact R.kit_NoneType_int | exact R.kit_bool_tuple | exact R.kit_bool_list | exact R.kit_bool_bool | exact R.kit_bool_str | exact R.kit_bool_int | exact R.kit_int_tuple | exact R.kit_int_list | exact R.kit_int_bool | exact R.kit_int_str | exact R.kit_int_int | exact R.kit_str_tuple | exact R.kit_str_list | exact R.kit_str_bool | exact R.kit_str_str | exact R.kit_str_int | exact R.kit_tuple_tuple | exact R.kit_tuple_list | exact R.kit_tuple_bool | exact R.kit_tuple_str | exact R.kit_tuple_int | exact R.kit_list_tuple | exact R.kit_list_list | exact R.kit_list_bool | exact R.kit_list_str | exact R.kit_list_int)
local macro_rules | `(tactic| walk_at "sz") => `(tactic| first | assumption | (refine Nat.le_trans ?_ (show 1000 ≤ PySem.sizeLine by decide); omega) | decide)
local macro_rules | `(tactic| walk_at "szl") => `(tactic| first | assumption | exact Nat.le_of_lt (L2.small1000 (by omega)) | decide | decide +kernel)
local macro_rules | `(tactic| walk_at "sys") => `(tactic| first | assumption | exact KN.SysAt.same (by assumption) (by assumption))
local macro_rules | `(tactic| walk_at "dk") => `(tactic| first | exact R.rowsS _ _ | exact R.rowsM _ _)
local macro_rules | `(tactic| walk_at "sqa") => `(tactic| first | assumption | exact R.SeqA.same (by assumption) (by assumption) | exact R.SeqA.new (by assumption) (by assumption) | (exact Or.inl (by walk_at "at")) | (exact Or.inr (by walk_at "at")))
local macro_rules | `(tactic| walk_at "ix") => `(tactic| first | rfl | (exact L2.atI_nat (by assumption)) | assumption)
local macro_rules | `(tactic| walk_at "cond") => `(tactic| first
  | exact Or.inl (by decide) | exact Or.inr (by decide) | exact Or.inl ⟨by omega, by omega⟩ | exact Or.inr ⟨by omega, by omega⟩
  | (constructor <;> omega) | (show _ ≠ _; omega) | decide | omega)
local macro_rules | `(tactic| walk_at "r1") => `(tactic| first
  | with_reducible refine R.seq ?_ | with_reducible refine R.asg ?_ | with_reducible refine R.ifs ?_ | with_reducible refine R.ret ?_ | with_reducible refine R.retN ?_ | with_reducible refine R.drop ?_ | with_reducible refine R.next ?_
  | with_reducible refine R.op ?_ | ((with_reducible refine R.var (v := ?v) ?h ?q); case h => rfl) | with_reducible refine R.c ?_ | with_reducible refine R.tst ?_ | with_reducible refine R.tb_ ?_ | with_reducible refine R.ex ?_
  | with_reducible refine R.i0 ?_ | with_reducible refine R.eqI ?_ | with_reducible refine R.neI ?_ | ((with_reducible refine R.ic ?_ ?_); · walk_at "cond") | with_reducible refine R.u0 ?_ | with_reducible refine R.un ?_
  | ((with_reducible refine R.eq ?_ ?_); · rfl) | ((with_reducible refine R.ne ?_ ?_); · rfl)
  | with_reducible refine R.and_ ?_ | with_reducible refine R.or_ ?_ | with_reducible refine R.not_ ?_ | with_reducible refine R.ife ?_ | with_reducible refine R.chain ?_
  | with_reducible refine R.cons ?_ | with_reducible refine R.nil ?_ | with_reducible refine R.call ?_ | with_reducible refine R.cb ?_ | with_reducible refine R.bm ?_
  | with_reducible refine R.gname ?_ | with_reducible refine R.gsub ?_ | with_reducible refine R.gnil ?_ | with_reducible refine R.gcons ?_ | with_reducible refine R.yes ?_
  | with_reducible refine R.int1 ?_ | ((with_reducible refine R.lenL (xs := ?xs) ?h ?q); case h => walk_at "at")
  | ((with_reducible refine R.ixL (xs := ?xs) (v := ?v) ?h ?e ?q); (case h => walk_at "at"); (case e => walk_at "ix"))
  | ((with_reducible refine R.setL (xs := ?xs) (n := ?n) ?h ?e ?q); (case h => walk_at "at"); (case e => rfl))
  | ((with_reducible refine R.append (xs := ?xs) ?h ?e ?q); (case h => walk_at "at"); (case e => walk_at "cond"))
  | with_reducible refine R.is_ ?_ | with_reducible refine R.isnot ?_ | with_reducible refine R.andV ?_ | with_reducible refine R.orV ?_ | with_reducible refine R.notV ?_
  | ((with_reducible refine R.isi (s := ?s) (b := ?b) ?ty ?h ?q); (case ty => walk_at "ty"); (case h => walk_at "kit"))
  | ((with_reducible refine R.addS ?h ?q); (case h => walk_at "sz")) | with_reducible refine R.max2 ?_ | with_reducible refine R.min2 ?_
  | ((with_reducible refine R.lenStr ?h ?q); (case h => walk_at "szl")) | ((with_reducible refine R.ixS (n := ?n) ?h ?e ?q); (case h => walk_at "szl"); (case e => walk_at "ix"))
  | ((with_reducible refine R.tyl (xs := ?xs) ?h ?q); (case h => walk_at "at")) | with_reducible refine R.itlist ?_ | with_reducible refine R.ittup ?_ | with_reducible refine R.m1 ?_ | with_reducible refine R.m1s ?_ | with_reducible refine R.leS ?_ | with_reducible refine R.itstr ?_ | with_reducible refine R.itstrE ?_ | with_reducible refine R.lc ?_ | with_reducible refine R.lc2 ?_ | with_reducible refine R.ckw ?_ | with_reducible refine R.par ?_ | with_reducible refine R.parE ?_ | with_reducible refine R.itrev ?_ | with_reducible refine R.dsetd ?_ | with_reducible refine R.dnotin_ ?_ | with_reducible refine R.for_ ?_ | ((with_reducible refine R.all_ (bs := ?bs) ?h ?q); (case h => walk_at "at"))
  | with_reducible refine R.rng1 ?_ | ((with_reducible refine R.rngE ?h ?q); (case h => (constructor <;> omega)))
  | ((with_reducible refine R.lenT (xs := ?xs) ?h ?q); (case h => walk_at "sqt")) | ((with_reducible refine R.ixT (xs := ?xs) (v := ?v) ?h ?e ?q); (case h => walk_at "sqt"); (case e => walk_at "ix"))
  | ((refine R.itlE (xs := ?xs) ?h ?q); (case h => walk_at "at")) | ((refine R.ittE (xs := ?xs) ?h ?q); (case h => walk_at "at"))
  | ((refine R.gseq (xs := ?xs) ?h ?e ?q); (case h => walk_at "sqa"); (case e => rfl)) | ((refine R.ixA (xs := ?xs) (v := ?v) ?h ?e ?q); (case h => walk_at "sqa"); (case e => walk_at "ix")) | ((refine R.lenA (xs := ?xs) ?h ?q); (case h => walk_at "sqa"))
  | ((with_reducible refine R.gtup (xs := ?xs) ?h ?e ?q); (case h => walk_at "sqt"); (case e => rfl))
  | with_reducible refine R.din_ ?_ | with_reducible refine R.dput_ ?_
  | with_reducible refine R.dget2_ ?_ | ((with_reducible refine R.aug_ (x := ?x) ?h ?q); case h => rfl) | with_reducible refine R.ipI_ ?_
  | with_reducible refine R.rng2 ?_ | ((with_reducible refine R.rngE2 ?h ?q); (case h => (refine ⟨?_, ?_, ?_, ?_⟩ <;> omega)))
  | with_reducible refine R.brk ?_ | with_reducible refine R.intB ?_ | with_reducible refine R.meth_ ?_ | ((refine KN.methS (rs := ?rs) (ms := ?ms) ?h (fun _ _ _ _ => rfl) ?q); case h => walk_at "sys")
  | with_reducible refine R.sl_ ?_ | with_reducible refine R.np_ ?_ | with_reducible refine R.pt_ ?_ | with_reducible refine R.ptE ?_ | with_reducible refine R.dget_ ?_ | with_reducible refine R.revL_ ?_
  | ((refine R.dgetS (kvs := ?kvs) (v := ?v) ?h ?e ?q); (case h => walk_at "at"); (case e => walk_at "dk"))
  | with_reducible refine R.sfld ?_ | with_reducible refine R.fld_ ?_ | with_reducible refine R.dc ?_
  | with_reducible refine R.dget1_ ?_
  | with_reducible refine R.itseq ?_ | with_reducible refine R.itenum ?_
  | with_reducible refine R.itT ?_ | with_reducible refine R.itF ?_ | with_reducible refine R.itNT ?_ | with_reducible refine R.itNF ?_
  | (with_reducible refine R.tup ?_) | (with_reducible refine R.lst ?_))
local macro_rules | `(tactic| walk_at "rd") => `(tactic| (repeat (first | walk_at "r1" | (dsimp only [Int.reduceToNat, List.set_cons_succ, List.set_cons_zero, List.length_cons, List.length_nil, List.nil_append, List.cons_append, List.append_nil]))))
local macro_rules | `(tactic| walk_at "go") => `(tactic| (rw [R.start_eq]; dsimp only [R.startE, List.map_nil]; walk_at "rd"))
namespace KN
open PySem L2 SX R
open C8 (Cal Def cal0 pe_c pe_gc fnScope fnBody pss_cut)
section
variable {P : Program} {w : World} {K : PySem.W.Frag} {mg : Str → Option Value} {base : Heap}
abbrev sBounded : Stmt := top 35
theorem scBounded : FnScope ["rows", "found", "word", "value", "most", "is_unsaid", "last"] ["rows"] (fnScope sBounded) := ⟨rfl, rfl, rfl, by decide +kernel, rfl, by decide +kernel, by decide +kernel⟩
abbrev sEndless : Stmt := top 38
theorem scEndless : FnScope ["rows", "row"] ["rows"] (fnScope sEndless) := ⟨rfl, rfl, rfl, by decide +kernel, rfl, by decide +kernel, by decide +kernel⟩
abbrev sEdge : Stmt := top 39
theorem scEdge : FnScope ["rows", "row"] ["rows"] (fnScope sEdge) := ⟨rfl, rfl, rfl, by decide +kernel, rfl, by decide +kernel, by decide +kernel⟩
abbrev sSmall : Stmt := top 36
theorem scSmall : FnScope ["pool", "rows"] ["pool"] (fnScope sSmall) := ⟨rfl, rfl, rfl, by decide +kernel, rfl, by decide +kernel, by decide +kernel⟩
theorem c_bounded (Z : Zs mg) {f : Addr} {fd : FuncData} (F : Def K mg "_law_bounded" sBounded f fd) (b : Binds K fd ["rows"] []) : Cal P w K mg base 1 "_law_bounded" (spRows1 fun rs ms => .int (bmax rs ms)) [] := by
  refine cal0 F b .nil scBounded (fun vs H Q E h => ?_) (fun cdv A outer s H vs Q E hr h => ?_)
  · obtain ⟨r, rs, ms, rfl, _⟩ := h
    rfl
  · obtain ⟨r, rs, ms, rfl, hR, hg, k⟩ := h
    refine ⟨_, pss_cons (ps_set (i := 1) scBounded.nd rfl (Or.inl rfl) (pe_op op_cat (pe_lst (pa_cons pe_int pa_nil)) (pe_lc (own := [("word", 2), ("value", 3)]) (tt := tYes) rfl scBounded.nd (kiL K (pe_dget (hu_of hr) (pv 0) pe_str (fun _ _ => rfl))) (blkOk_by (own := [("word", 2), ("value", 3)]) (N := ["rows", "found", "word", "value", "most", "is_unsaid", "last"]) (sc := fnScope sBounded) (by decide +kernel)) (fun _ _ _ _ _ => (kgTup K (n := 2) rfl (pgs_cons (pg_name (i := 2) scBounded.nd rfl (Or.inl rfl)) (pgs_cons (pg_name (i := 3) scBounded.nd rfl (Or.inl rfl)) pgs_nil)))) (fun _ _ _ _ _ => pts_nil) (fun _ _ _ _ _ => pv 3))))
      (pss_cons (ps_for PassesOwn.never rfl (kiL K (pe_dget (hu_of hr) (pv 0) pe_str (fun _ _ => rfl))) (kgTup K (n := 5) rfl (pgs_cons (pg_name (i := 2) scBounded.nd rfl (Or.inl rfl)) (pgs_cons (pg_name (i := 3) scBounded.nd rfl (Or.inl rfl)) (pgs_cons (pg_name (i := 4) scBounded.nd rfl (Or.inl rfl)) (pgs_cons (pg_name (i := 5) scBounded.nd rfl (Or.inl rfl)) (pgs_cons (pg_name (i := 6) scBounded.nd rfl (Or.inl rfl)) pgs_nil))))))
        (pss_one (ps_if (pt_cmpR oIsNot (pv 4) pe_non (nomark _))
        (pss_one (ps_expr (kBM K (pe_bm PySem.F.plainAttrs_list PySem.F.slot_list_append PySem.F.type_list_append mt_append (pv 1) (pa_cons (pe_op op_add (pe_op op_mul (pv 4) (pv 3)) (pv 6)) pa_nil)))))
        (pss_nil))))
      (pss_one (ps_ret (pe_callB (kMax K) (by rfl) Z.max (by decide +kernel) (pa_cons (pv 1) pa_nil))))), ?_⟩
    obtain ⟨s, m, xs, ys, hr0, hs, hts, hm, htm⟩ := id hR
    have lx : xs.length = rs.length := by have := hts.len; rwa [List.length_map] at this
    have ly : ys.length = ms.length := by have := htm.len; rwa [List.length_map] at this
    have sl := hg.sl
    have ml := hg.ml
    walk_at "go"
    refine ⟨by decide, fun a ha => R.gen ha fun H1 s1 h1 => ?_⟩
    have hr1 := s1 _ _ hr0
    have hs1 := s1 _ _ hs
    walk_at "rd"
    intro D hD
    refine lc_it (walk_list (K := K) (a := s) (xs := xs)) (fun i H' => Same H1 H' ∧ H' D = some (.lst (((rs.take i).map (·.v)).map V.int))) ⟨same_new (Same.refl _) hD, upd_same⟩ (fun i H' _ hh => SqL.of (hh.1 _ _ hs1)) ?_ ?_
    · rintro i x H2 H2' hi ⟨s2, hD2⟩ ⟨rfl, hx⟩
      have hri : rs[i]? = some rs[i] := List.getElem?_eq_getElem (by omega)
      obtain ⟨b, hya, hb⟩ := hts.get i (srV rs[i]) (by rw [List.getElem?_map, hri]; rfl)
      rw [hya] at hx
      cases hx
      have hb2 : H2' b = some (.tup [.str rs[i].w, .int rs[i].v]) := s2 _ _ (s1 _ _ hb)
      refine R.gtup (SqT.of hb2) rfl ?_
      refine R.gcons ?_
      refine R.gname ?_
      refine R.gcons ?_
      refine R.gname ?_
      refine R.gnil ⟨rfl, ?_⟩
      walk_at "rd"
      refine ⟨_, hD2, small1000 (by rw [List.length_map, List.length_map, List.length_take]; omega), same_put s2 hD, ?_⟩
      rw [upd_same, List.take_add_one, hri, List.map_append, List.map_append]
      rfl
    · rintro H2 ⟨s2, hD2⟩
      rw [lx, List.take_of_length_le (Nat.le_refl _)] at hD2
      have h12 := s2 _ _ h1
      walk_at "rd"
      refine R.catL (xs := [.int 0]) h12 hD2 (Nat.le_of_lt (small1000 (by rw [List.length_map, List.length_map]; show 1 + rs.length ≤ 1000; omega))) fun c hc => R.gen hc fun H3 s3 h3 => ?_
      have s03 := (s1.trans s2).trans s3
      have hr3 := s03 _ _ hr0
      have hm3 := s03 _ _ hm
      have c0 : H c = none := (s1.trans s2).free hc
      have cm : c ≠ m := (ne_of_none hm c0).symm
      replace h3 : H3 c = some (.lst (([(0 : Int)] ++ rs.map fun r => r.v).map V.int)) := by rw [h3, List.map_append]; rfl
      walk_at "rd"
      refine for_it (walk_list (K := K) (a := m) (xs := ys)) (fun i σ' H' => ∃ q2 q3 q4 q5 q6, σ' = [some (.ref r), some (.ref c), q2, q3, q4, q5, q6] ∧ SameBut c H3 H' ∧ H' c = some (.lst (([(0 : Int)] ++ (rs.map fun r => r.v) ++ bvals (ms.take i)).map V.int)))
        ⟨none, none, none, none, none, rfl, SameBut.refl, by rw [h3]; simp [bvals]⟩ (fun i σ' H' _ hh => by obtain ⟨_, _, _, _, _, _, e, _⟩ := hh; exact SqL.of (e _ _ cm.symm hm3)) ?_ ?_
      · rintro i x σ' H4 H4' hi ⟨q2, q3, q4, q5, q6, rfl, e4, h4⟩ ⟨rfl, hx⟩
        have hri : ms[i]? = some ms[i] := List.getElem?_eq_getElem (by omega)
        obtain ⟨b, hya, hb⟩ := htm.get i (mrV ms[i]) (by rw [List.getElem?_map, hri]; rfl)
        rw [hya] at hx
        cases hx
        have hb3 := s03 _ _ hb
        have bc : b ≠ c := ne_of hb3 h3 (by intro z; cases z)
        have hb4 : H4' b = some (.tup [.str ms[i].w, .int ms[i].v, ocnt ms[i].c, .bl ms[i].u, .int ms[i].r]) := e4 _ _ bc hb3
        have hmv := good_mv hg hri
        have et : ms.take (i + 1) = ms.take i ++ [ms[i]] := by rw [List.take_add_one, hri]; rfl
        rw [et, bvals_snoc]
        generalize ms[i] = mm at *
        refine R.gtup (SqT.of hb4) rfl ?_
        refine R.gcons ?_
        refine R.gname ?_
        refine R.gcons ?_
        refine R.gname ?_
        refine R.gcons ?_
        refine R.gname ?_
        refine R.gcons ?_
        refine R.gname ?_
        refine R.gcons ?_
        refine R.gname ?_
        refine R.gnil ?_
        walk_at "rd"
        cases hc : mm.c with
        | none =>
          refine itn (fun q => absurd rfl q) (fun _ => ?_)
          walk_at "rd"
          exact ⟨_, _, _, _, _, rfl, e4, by rw [List.append_nil]; exact h4⟩
        | some x =>
          rw [show ocnt (some x) = V.int x from rfl]
          refine itn (fun _ => ?_) (fun q => nomatch q)
          walk_at "rd"
          have bl := bvals_len (ms.take i)
          rw [List.length_take] at bl
          refine R.append h4 (small1000 (by rw [List.length_map, List.length_append, List.length_append, List.length_map]; show 1 + rs.length + _ ≤ 1000; omega)) ?_
          walk_at "rd"
          exact ⟨_, _, _, _, _, rfl, e4.put, by rw [upd_same]; simp [List.map_append]⟩
      · rintro σ' H4 ⟨q2, q3, q4, q5, q6, rfl, e4, h4⟩
        rw [ly, List.take_of_length_le (Nat.le_refl _)] at h4
        walk_at "rd"
        refine ⟨c, _, rfl, SqL.of h4, by rw [List.length_append, List.length_append]; show 0 < 1 + _ + _; omega, fun mm h1 h2 => ?_⟩
        rw [bmax_eq h1 h2]
        exact k _ fun b o hb => e4 _ _ (ne_of_none hb c0) (s03 _ _ hb)
def spEnd : Sp := fun vs H Q _ => ∃ (r : Addr) (rs : List SR) (ms : List MR), vs = [.ref r] ∧ RowsAt H r rs ms ∧ (∀ m a, endF ms = some m → H a = some (.tup (mrV m)) → Q (.ref a) H) ∧ (endF ms = none → Q .non H)
theorem endF_take {ms : List MR} {i : Nat} (hno : endF (ms.take i) = none) {m : MR} (h : ms[i]? = some m) : (m.c.isNone = true → endF ms = some m) ∧ (m.c.isNone = false → endF (ms.take (i + 1)) = none) := by
  have et : ms.take (i + 1) = ms.take i ++ [m] := by rw [List.take_add_one, h]; rfl
  constructor
  · intro hn
    have e : ms = ms.take (i + 1) ++ ms.drop (i + 1) := (List.take_append_drop _ _).symm
    unfold endF at hno ⊢
    rw [e, et, List.append_assoc, List.find?_append, hno]
    rw [Option.none_or, List.singleton_append, List.find?_cons_of_pos (by exact hn)]
  · intro hn
    unfold endF at hno ⊢
    rw [et, List.find?_append, hno]
    rw [Option.none_or, List.find?_cons_of_neg (by rw [hn]; exact Bool.false_ne_true)]
    rfl
theorem c_endless {f : Addr} {fd : FuncData} (F : Def K mg "_law_endless" sEndless f fd) (b : Binds K fd ["rows"] []) : Cal P w K mg base 1 "_law_endless" spEnd [] := by
  refine cal0 F b .nil scEndless (fun vs H Q E h => ?_) (fun cdv A outer s H vs Q E hr h => ?_)
  · obtain ⟨r, rs, ms, rfl, _⟩ := h
    rfl
  · obtain ⟨r, rs, ms, rfl, hR, k1, k2⟩ := h
    refine ⟨_, pss_cons (ps_for PassesOwn.never rfl (kiL K (pe_dget (hu_of hr) (pv 0) pe_str (fun _ _ => rfl))) (pg_name (i := 1) scEndless.nd rfl (Or.inl rfl))
        (pss_one (ps_if (pt_cmpR oIs (pe_ix (kIxT K) (pv 1) pe_int (fun _ _ => rfl)) pe_non (nomark _))
        (pss_one (ps_ret (pv 1)))
        (pss_nil))))
      (pss_one (ps_ret pe_non)), ?_⟩
    obtain ⟨s, m, xs, ys, hr0, hs, hts, hm, htm⟩ := id hR
    have ly : ys.length = ms.length := by have := htm.len; rwa [List.length_map] at this
    walk_at "go"
    refine for_it (walk_list (K := K) (a := m) (xs := ys)) (fun i σ' H' => ∃ q1, σ' = [some (.ref r), q1] ∧ H' = H ∧ endF (ms.take i) = none) ⟨none, rfl, rfl, rfl⟩ (fun i σ' H' _ hh => by obtain ⟨_, _, rfl, _⟩ := hh; exact SqL.of hm) ?_ ?_
    · rintro i x σ' H1 H1' hi ⟨q1, rfl, rfl, hno⟩ ⟨rfl, hx⟩
      have hri : ms[i]? = some ms[i] := List.getElem?_eq_getElem (by omega)
      obtain ⟨b, hya, hb⟩ := htm.get i (mrV ms[i]) (by rw [List.getElem?_map, hri]; rfl)
      rw [hya] at hx
      cases hx
      have ef := endF_take hno hri
      generalize ms[i] = mm at *
      have hb2 : H1' b = some (.tup [.str mm.w, .int mm.v, ocnt mm.c, .bl mm.u, .int mm.r]) := hb
      walk_at "rd"
      refine it (fun h1 => ?_) (fun h1 => ?_)
      · walk_at "rd"
        exact k1 mm b (ef.1 ((ocnt_non _).mp h1)) hb
      · walk_at "rd"
        refine ⟨_, rfl, rfl, ef.2 ?_⟩
        cases z : mm.c.isNone with
        | true => exact absurd ((ocnt_non _).mpr z) h1
        | false => rfl
    · rintro σ' H1 ⟨q1, rfl, rfl, hno⟩
      rw [ly, List.take_of_length_le (Nat.le_refl _)] at hno
      walk_at "rd"
      exact k2 hno
theorem c_edge (Z : Zs mg) (c_bounded : Cal P w K mg base 1 "_law_bounded" (spRows1 fun rs ms => .int (bmax rs ms)) []) (c_endless : Cal P w K mg base 1 "_law_endless" spEnd []) {f : Addr} {fd : FuncData} (F : Def K mg "_law_edge" sEdge f fd) (b : Binds K fd ["rows"] []) : Cal P w K mg base 2 "_law_edge" (spRows1 fun rs ms => .int (edgeF rs ms)) [] := by
  refine cal0 F b .nil scEdge (fun vs H Q E h => ?_) (fun cdv A outer s H vs Q E hr h => ?_)
  · obtain ⟨r, rs, ms, rfl, _⟩ := h
    rfl
  · obtain ⟨r, rs, ms, rfl, hR, hg, k⟩ := h
    refine ⟨_, pss_cons (ps_set (i := 1) scEdge.nd rfl (Or.inl rfl) (pe_c c_endless hr (by omega) (by rfl) (pa_cons (pv 0) pa_nil)))
      (pss_cons (ps_if (pt_cmpR oIs (pv 1) pe_non (nomark _))
        (pss_one (ps_ret (pe_op op_add (pe_c c_bounded hr (by omega) (by rfl) (pa_cons (pv 0) pa_nil)) pe_int)))
        (pss_nil))
      (pss_one (ps_ret (pe_op op_add (pe_callB kMax2 (by rfl) Z.max (by decide +kernel) (pa_cons (pe_c c_bounded hr (by omega) (by rfl) (pa_cons (pv 0) pa_nil)) (pa_cons (pe_ix (kIxT K) (pv 1) pe_int (fun _ _ => rfl)) pa_nil))) (pe_ix (kIxT K) (pv 1) pe_int (fun _ _ => rfl)))))), ?_⟩
    walk_at "go"
    refine ⟨r, rs, ms, rfl, hR, fun m a he ha => ?_, fun he => ?_⟩
    · have ek : edgeF rs ms = mx (bmax rs ms) m.v + m.v := by unfold edgeF; rw [he]
      dsimp only at k
      rw [ek] at k
      dsimp only
      replace ha : H a = some (.tup [.str m.w, .int m.v, ocnt m.c, .bl m.u, .int m.r]) := ha
      walk_at "rd"
      refine itN (fun z => nomatch z) ?_
      walk_at "rd"
      refine ⟨r, rs, ms, rfl, hR, hg, fun H1 s1 => ?_⟩
      walk_at "rd"
      exact k _ s1
    · have ek : edgeF rs ms = bmax rs ms + 1 := by unfold edgeF; rw [he]
      dsimp only at k
      rw [ek] at k
      dsimp only
      walk_at "rd"
      refine itY rfl ?_
      walk_at "rd"
      refine ⟨r, rs, ms, rfl, hR, hg, fun H1 s1 => ?_⟩
      walk_at "rd"
      exact k _ s1
theorem c_small (Z : Zs mg) (c_rows : Cal P w K mg base 6 "_law_rows" (spDrawn 30 1000 99) []) (c_regular : Cal P w K mg base 4 "_law_regular" spReg []) (c_bounded : Cal P w K mg base 1 "_law_bounded" (spRows1 fun rs ms => .int (bmax rs ms)) [])
    {f : Addr} {fd : FuncData} (F : Def K mg "_law_small" sSmall f fd) (b : Binds K fd ["pool"] []) : Cal P w K mg base 7 "_law_small" (spDrawn 30 1000 99) [] := by
  refine cal0 F b .nil scSmall (fun vs H Q E h => ?_) (fun cdv A outer s H vs Q E hr h => ?_)
  · obtain ⟨p, l, cs, rfl, _⟩ := h
    rfl
  · obtain ⟨p, l, cs, rfl, hP, hl, k⟩ := h
    refine ⟨_, pss_cons (ps_set (i := 1) scSmall.nd rfl (Or.inl rfl) (pe_c c_rows hr (by omega) (by rfl) (pa_cons (pv 0) pa_nil)))
      (pss_one (ps_ret (pe_ifExp (pt_cmpR op_lt (pe_c c_bounded hr (by omega) (by rfl) (pa_cons (pv 1) pa_nil)) pe_int (nomark _)) (pv 1) (pe_c c_regular hr (by omega) (by rfl) (pa_cons (pv 0) pa_nil))))), ?_⟩
    walk_at "go"
    refine ⟨p, l, cs, rfl, hP, hl, fun H1 r rs ms e1 P1 R1 dr => ?_⟩
    have hl1 := e1 _ _ hP.ne hl
    walk_at "rd"
    refine ⟨r, rs, ms, rfl, R1, dr.g, fun H2 s2 => ?_⟩
    walk_at "rd"
    refine it (fun h1 => ?_) (fun h1 => ?_)
    · walk_at "rd"
      exact k _ r rs ms (e1.trans (SameBut.of s2)) (P1.same s2) (R1.same s2) dr
    · walk_at "rd"
      exact ⟨p, l, cs, rfl, P1.same s2, s2 _ _ hl1, fun H' r s m xs ys rs ms _ _ _ a b _ _ c1 c2 c3 c4 c5 d _ => k H' r rs ms ((e1.trans (SameBut.of s2)).trans a) b ⟨s, m, xs, ys, c1, c2, c3, c4, c5⟩ (d.mono (by decide) (by decide) (by decide))⟩
end
end KN
end
section
set_option Elab.async false
set_option linter.all false
set_option maxRecDepth 100000
set_option maxHeartbeats 4000000
set_option pp.maxSteps 1500
set_option pp.deepTerms false
local macro_rules | `(tactic| walk_at "ne") => `(tactic| first
  | assumption | (apply Ne.symm; assumption)
  | exact R.ne_new (by assumption) | exact (R.ne_new (by assumption)).symm
  | exact L2.ne_of_none (by assumption) (by assumption) | exact (L2.ne_of_none (by assumption) (by assumption)).symm
  | exact L2.ne_of_none (by assumption) (R.free_new (by assumption)) | exact (L2.ne_of_none (by assumption) (R.free_new (by assumption))).symm)
local macro_rules | `(tactic| walk_at "at") => `(tactic| first
  | assumption | exact L2.upd_same
  | (refine R.sb (H := ?H) (p := ?p) ?e ?n ?h; (case e => assumption); (case n => walk_at "ne"); (case h => walk_at "at"))
  | (refine R.sm (H := ?H) ?e ?h; (case e => assumption); (case h => walk_at "at"))
  | (refine Eq.trans (L2.upd_ne ?_) ?_ <;> first | walk_at "ne" | walk_at "at"))
local macro_rules | `(tactic| walk_at "sqt") => `(tactic| first | assumption | (refine L2.SqT.of ?_; walk_at "at"))
local macro_rules | `(tactic| walk_at "ty") => `(tactic| first | exact R.tyN | exact R.tyB | exact R.tyI | exact R.tyS | (refine R.tyT (xs := ?xs) ?h; case h => walk_at "at") | (refine R.tyL (xs := ?xs) ?h; case h => walk_at "at"))
local macro_rules | `(tactic| walk_at "kit") => `(tactic| first | exact R.kit_NoneType_tuple | exact R.kit_NoneType_list | exact R.kit_NoneType_bool | exact R.kit_NoneType_str | exact R.kit_NoneType_int | exact R.kit_bool_tuple | exact R.kit_bool_list | exact R.kit_bool_bool | exact R.kit_bool_str | exact R.kit_bool_int | exact R.kit_int_tuple | exact R.kit_int_list | exact R.kit_int_bool | exact R.kit_int_str | exact R.kit_int_int | exact R.kit_str_tuple | exact R.kit_str_list | exact R.kit_str_bool | exact R.kit_str_str | exact R.kit_str_int | exact R.kit_tuple_tuple | exact R.kit_tuple_list | exact R.kit_tuple_bool | exact R.kit_tuple_str | exact R.kit_tuple_int | exact R.kit_list_tuple | exact R.kit_list_list | exact R.kit_list_bool | exact R.kit_list_str | exact R.kit_list_int)
local macro_rules | `(tactic| walk_at "sz") => `(tactic| first | assumption | (refine Nat.le_trans ?_ (show 1000 ≤ PySem.sizeLine by decide); omega) | decide)
local macro_rules | `(tactic| walk_at "szl") => `(tactic| first | assumption | exact Nat.le_of_lt (L2.small1000 (by omega)) | decide | decide +kernel)
local macro_rules | `(tactic| walk_at "sys") => `(tactic| first | assumption | exact KN.SysAt.same (by assumption) (by assumption))
local macro_rules | `(tactic| walk_at "dk") => `(tactic| first | exact R.rowsS _ _ | exact R.rowsM _ _)
local macro_rules | `(tactic| walk_at "sqa") => `(tactic| first | assumption | exact R.SeqA.same (by assumption) (by assumption) | exact R.SeqA.new (by assumption) (by assumption) | (exact Or.inl (by walk_at "at")) | (exact Or.inr (by walk_at "at")))
local macro_rules | `(tactic| walk_at "ix") => `(tactic| first | rfl | (exact L2.atI_nat (by assumption)) | assumption)
local macro_rules | `(tactic| walk_at "cond") => `(tactic| first
  | exact Or.inl (by decide) | exact Or.inr (by decide) | exact Or.inl ⟨by omega, by omega⟩ | exact Or.inr ⟨by omega, by omega⟩
  | (constructor <;> omega) | (show _ ≠ _; omega) | decide | omega)
local macro_rules | `(tactic| walk_at "r1") => `(tactic| first
  | with_reducible refine R.seq ?_ | with_reducible refine R.asg ?_ | with_reducible refine R.ifs ?_ | with_reducible refine R.ret ?_ | with_reducible refine R.retN ?_ | with_reducible refine R.drop ?_ | with_reducible refine R.next ?_
  | with_reducible refine R.op ?_ | ((with_reducible refine R.var (v := ?v) ?h ?q); case h => rfl) | with_reducible refine R.c ?_ | with_reducible refine R.tst ?_ | with_reducible refine R.tb_ ?_ | with_reducible refine R.ex ?_
  | with_reducible refine R.i0 ?_ | with_reducible refine R.eqI ?_ | with_reducible refine R.neI ?_ | ((with_reducible refine R.ic ?_ ?_); · walk_at "cond") | with_reducible refine R.u0 ?_ | with_reducible refine R.un ?_
  | ((with_reducible refine R.eq ?_ ?_); · rfl) | ((with_reducible refine R.ne ?_ ?_); · rfl)
  | with_reducible refine R.and_ ?_ | with_reducible refine R.or_ ?_ | with_reducible refine R.not_ ?_ | with_reducible refine R.ife ?_ | with_reducible refine R.chain ?_
  | with_reducible refine R.cons ?_ | with_reducible refine R.nil ?_ | with_reducible refine R.call ?_ | with_reducible refine R.cb ?_ | with_reducible refine R.bm ?_
  | with_reducible refine R.gname ?_ | with_reducible refine R.gsub ?_ | with_reducible refine R.gnil ?_ | with_reducible refine R.gcons ?_ | with_reducible refine R.yes ?_
  | with_reducible refine R.int1 ?_ | ((with_reducible refine R.lenL (xs := ?xs) ?h ?q); case h => walk_at "at")
  | ((with_reducible refine R.ixL (xs := ?xs) (v := ?v) ?h ?e ?q); (case h => walk_at "at"); (case e => walk_at "ix"))
  | ((with_reducible refine R.setL (xs := ?xs) (n := ?n) ?h ?e ?q); (case h => walk_at "at"); (case e => rfl))
  | ((with_reducible refine R.append (xs := ?xs) ?h ?e ?q); (case h => walk_at "at"); (case e => walk_at "cond"))
  | with_reducible refine R.is_ ?_ | with_reducible refine R.isnot ?_ | with_reducible refine R.andV ?_ | with_reducible refine R.orV ?_ | with_reducible refine R.notV ?_
  | ((with_reducible refine R.isi (s := ?s) (b := ?b) ?ty ?h ?q); (case ty => walk_at "ty"); (case h => walk_at "kit"))
  | ((with_reducible refine R.addS ?h ?q); (case h => walk_at "sz")) | with_reducible refine R.max2 ?_ | with_reducible refine R.min2 ?_
  | ((with_reducible refine R.lenStr ?h ?q); (case h => walk_at "szl")) | ((with_reducible refine R.ixS (n := ?n) ?h ?e ?q); (case h => walk_at "szl"); (case e => walk_at "ix"))
  | ((with_reducible refine R.tyl (xs := ?xs) ?h ?q); (case h => walk_at "at")) | with_reducible refine R.itlist ?_ | with_reducible refine R.ittup ?_ | with_reducible refine R.m1 ?_ | with_reducible refine R.m1s ?_ | with_reducible refine R.leS ?_ | with_reducible refine R.itstr ?_ | with_reducible refine R.itstrE ?_ | with_reducible refine R.lc ?_ | with_reducible refine R.lc2 ?_ | with_reducible refine R.ckw ?_ | with_reducible refine R.par ?_ | with_reducible refine R.parE ?_ | with_reducible refine R.itrev ?_ | with_reducible refine R.dsetd ?_ | with_reducible refine R.dnotin_ ?_ | with_reducible refine R.for_ ?_ | ((with_reducible refine R.all_ (bs := ?bs) ?h ?q); (case h => walk_at "at"))
  | with_reducible refine R.rng1 ?_ | ((with_reducible refine R.rngE ?h ?q); (case h => (constructor <;> omega)))
  | ((with_reducible refine R.lenT (xs := ?xs) ?h ?q); (case h => walk_at "sqt")) | ((with_reducible refine R.ixT (xs := ?xs) (v := ?v) ?h ?e ?q); (case h => walk_at "sqt"); (case e => walk_at "ix"))
  | ((refine R.itlE (xs := ?xs) ?h ?q); (case h => walk_at "at")) | ((refine R.ittE (xs := ?xs) ?h ?q); (case h => walk_at "at"))
  | ((refine R.gseq (xs := ?xs) ?h ?e ?q); (case h => walk_at "sqa"); (case e => rfl)) | ((refine R.ixA (xs := ?xs) (v := ?v) ?h ?e ?q); (case h => walk_at "sqa"); (case e => walk_at "ix")) | ((refine R.lenA (xs := ?xs) ?h ?q); (case h => walk_at "sqa"))
  | ((with_reducible refine R.gtup (xs := ?xs) ?h ?e ?q); (case h => walk_at "sqt"); (case e => rfl))
  | with_reducible refine R.din_ ?_ | with_reducible refine R.dput_ ?_
  | with_reducible refine R.dget2_ ?_ | ((with_reducible refine R.aug_ (x := ?x) ?h ?q); case h => rfl) | with_reducible refine R.ipI_ ?_
  | with_reducible refine R.rng2 ?_ | ((with_reducible refine R.rngE2 ?h ?q); (case h => (refine ⟨?_, ?_, ?_, ?_⟩ <;> omega)))
  | with_reducible refine R.brk ?_ | with_reducible refine R.intB ?_ | with_reducible refine R.meth_ ?_ | ((refine KN.methS (rs := ?rs) (ms := ?ms) ?h (fun _ _ _ _ => rfl) ?q); case h => walk_at "sys")
  | with_reducible refine R.sl_ ?_ | with_reducible refine R.np_ ?_ | with_reducible refine R.pt_ ?_ | with_reducible refine R.ptE ?_ | with_reducible refine R.dget_ ?_ | with_reducible refine R.revL_ ?_
  | ((refine R.dgetS (kvs := ?kvs) (v := ?v) ?h ?e ?q); (case h => walk_at "at"); (case e => walk_at "dk"))
  | with_reducible refine R.sfld ?_ | with_reducible refine R.fld_ ?_ | with_reducible refine R.dc ?_
  | with_reducible refine R.dget1_ ?_
  | with_reducible refine R.itseq ?_ | with_reducible refine R.itenum ?_
  | with_reducible refine R.itT ?_ | with_reducible refine R.itF ?_ | with_reducible refine R.itNT ?_ | with_reducible refine R.itNF ?_
  | (with_reducible refine R.tup ?_) | (with_reducible refine R.lst ?_))
local macro_rules | `(tactic| walk_at "rd") => `(tactic| (repeat (first | walk_at "r1" | (dsimp only [Int.reduceToNat, List.set_cons_succ, List.set_cons_zero, List.length_cons, List.length_nil, List.nil_append, List.cons_append, List.append_nil]))))
local macro_rules | `(tactic| walk_at "go") => `(tactic| (rw [R.start_eq]; dsimp only [R.startE, List.map_nil]; walk_at "rd"))
namespace KN
open PySem L2 SX R
def cle (c : Option Int) (t : Int) : Bool := match c with | none => true | some c => decide (t ≤ c)
end KN
end
section
set_option Elab.async false
set_option linter.all false
set_option maxRecDepth 100000
set_option maxHeartbeats 4000000
set_option pp.maxSteps 1500
set_option pp.deepTerms false
local macro_rules | `(tactic| walk_at "ne") => `(tactic| first
  | assumption | (apply Ne.symm; assumption)
  | exact R.ne_new (by assumption) | exact (R.ne_new (by assumption)).symm
  | exact L2.ne_of_none (by assumption) (by assumption) | exact (L2.ne_of_none (by assumption) (by assumption)).symm
  | exact L2.ne_of_none (by assumption) (R.free_new (by assumption)) | exact (L2.ne_of_none (by assumption) (R.free_new (by assumption))).symm)
local macro_rules | `(tactic| walk_at "at") => `(tactic| first
  | assumption | exact L2.upd_same
  | (refine R.sb (H := ?H) (p := ?p) ?e ?n ?h; (case e => assumption); (case n => walk_at "ne"); (case h => walk_at "at"))
  | (refine R.sm (H := ?H) ?e ?h; (case e => assumption); (case h => walk_at "at"))
  | (refine Eq.trans (L2.upd_ne ?_) ?_ <;> first | walk_at "ne" | walk_at "at"))
local macro_rules | `(tactic| walk_at "sqt") => `(tactic| first | assumption | (refine L2.SqT.of ?_; walk_at "at"))
local macro_rules | `(tactic| walk_at "ty") => `(tactic| first | exact R.tyN | exact R.tyB | exact R.tyI | exact R.tyS | (refine R.tyT (xs := ?xs) ?h; case h => walk_at "at") | (refine R.tyL (xs := ?xs) ?h; case h => walk_at "at"))
local macro_rules | `(tactic| walk_at "kit") => `(tactic| first | exact R.kit_NoneType_tuple | exact R.kit_NoneType_list | exact R.kit_NoneType_bool | exact R.kit_NoneType_str | exact R.kit_NoneType_int | exact R.kit_bool_tuple | exact R.kit_bool_list | exact R.kit_bool_bool | exact R.kit_bool_str | exact R.kit_bool_int | exact R.kit_int_tuple | exact R.kit_int_list | exact R.kit_int_bool | exact R.kit_int_str | exact R.kit_int_int | exact R.kit_str_tuple | exact R.kit_str_list | exact R.kit_str_bool | exact R.kit_str_str | exact R.kit_str_int | exact R.kit_tuple_tuple | exact R.kit_tuple_list | exact R.kit_tuple_bool | exact R.kit_tuple_str | exact R.kit_tuple_int | exact R.kit_list_tuple | exact R.kit_list_list | exact R.kit_list_bool | exact R.kit_list_str | exact R.kit_list_int)
local macro_rules | `(tactic| walk_at "sz") => `(tactic| first | assumption | (refine Nat.le_trans ?_ (show 1000 ≤ PySem.sizeLine by decide); omega) | decide)
local macro_rules | `(tactic| walk_at "szl") => `(tactic| first | assumption | exact Nat.le_of_lt (L2.small1000 (by omega)) | decide | decide +kernel)
local macro_rules | `(tactic| walk_at "sys") => `(tactic| first | assumption | exact KN.SysAt.same (by assumption) (by assumption))
local macro_rules | `(tactic| walk_at "dk") => `(tactic| first | exact R.rowsS _ _ | exact R.rowsM _ _)
local macro_rules | `(tactic| walk_at "sqa") => `(tactic| first | assumption | exact R.SeqA.same (by assumption) (by assumption) | exact R.SeqA.new (by assumption) (by assumption) | (exact Or.inl (by walk_at "at")) | (exact Or.inr (by walk_at "at")))
local macro_rules | `(tactic| walk_at "ix") => `(tactic| first | rfl | (exact L2.atI_nat (by assumption)) | assumption)
local macro_rules | `(tactic| walk_at "cond") => `(tactic| first
  | exact Or.inl (by decide) | exact Or.inr (by decide) | exact Or.inl ⟨by omega, by omega⟩ | exact Or.inr ⟨by omega, by omega⟩
  | (constructor <;> omega) | (show _ ≠ _; omega) | decide | omega)
local macro_rules | `(tactic| walk_at "r1") => `(tactic| first
  | with_reducible refine R.seq ?_ | with_reducible refine R.asg ?_ | with_reducible refine R.ifs ?_ | with_reducible refine R.ret ?_ | with_reducible refine R.retN ?_ | with_reducible refine R.drop ?_ | with_reducible refine R.next ?_
  | with_reducible refine R.op ?_ | ((with_reducible refine R.var (v := ?v) ?h ?q); case h => rfl) | with_reducible refine R.c ?_ | with_reducible refine R.tst ?_ | with_reducible refine R.tb_ ?_ | with_reducible refine R.ex ?_
  | with_reducible refine R.i0 ?_ | with_reducible refine R.eqI ?_ | with_reducible refine R.neI ?_ | ((with_reducible refine R.ic ?_ ?_); · walk_at "cond") | with_reducible refine R.u0 ?_ | with_reducible refine R.un ?_
  | ((with_reducible refine R.eq ?_ ?_); · rfl) | ((with_reducible refine R.ne ?_ ?_); · rfl)
  | with_reducible refine R.and_ ?_ | with_reducible refine R.or_ ?_ | with_reducible refine R.not_ ?_ | with_reducible refine R.ife ?_ | with_reducible refine R.chain ?_
  | with_reducible refine R.cons ?_ | with_reducible refine R.nil ?_ | with_reducible refine R.call ?_ | with_reducible refine R.cb ?_ | with_reducible refine R.bm ?_
  | with_reducible refine R.gname ?_ | with_reducible refine R.gsub ?_ | with_reducible refine R.gnil ?_ | with_reducible refine R.gcons ?_ | with_reducible refine R.yes ?_
  | with_reducible refine R.int1 ?_ | ((with_reducible refine R.lenL (xs := ?xs) ?h ?q); case h => walk_at "at")
  | ((with_reducible refine R.ixL (xs := ?xs) (v := ?v) ?h ?e ?q); (case h => walk_at "at"); (case e => walk_at "ix"))
  | ((with_reducible refine R.setL (xs := ?xs) (n := ?n) ?h ?e ?q); (case h => walk_at "at"); (case e => rfl))
  | ((with_reducible refine R.append (xs := ?xs) ?h ?e ?q); (case h => walk_at "at"); (case e => walk_at "cond"))
  | with_reducible refine R.is_ ?_ | with_reducible refine R.isnot ?_ | with_reducible refine R.andV ?_ | with_reducible refine R.orV ?_ | with_reducible refine R.notV ?_
  | ((with_reducible refine R.isi (s := ?s) (b := ?b) ?ty ?h ?q); (case ty => walk_at "ty"); (case h => walk_at "kit"))
  | ((with_reducible refine R.addS ?h ?q); (case h => walk_at "sz")) | with_reducible refine R.max2 ?_ | with_reducible refine R.min2 ?_
  | ((with_reducible refine R.lenStr ?h ?q); (case h => walk_at "szl")) | ((with_reducible refine R.ixS (n := ?n) ?h ?e ?q); (case h => walk_at "szl"); (case e => walk_at "ix"))
  | ((with_reducible refine R.tyl (xs := ?xs) ?h ?q); (case h => walk_at "at")) | with_reducible refine R.itlist ?_ | with_reducible refine R.ittup ?_ | with_reducible refine R.m1 ?_ | with_reducible refine R.m1s ?_ | with_reducible refine R.leS ?_ | with_reducible refine R.itstr ?_ | with_reducible refine R.itstrE ?_ | with_reducible refine R.lc ?_ | with_reducible refine R.lc2 ?_ | with_reducible refine R.ckw ?_ | with_reducible refine R.par ?_ | with_reducible refine R.parE ?_ | with_reducible refine R.itrev ?_ | with_reducible refine R.dsetd ?_ | with_reducible refine R.dnotin_ ?_ | with_reducible refine R.for_ ?_ | ((with_reducible refine R.all_ (bs := ?bs) ?h ?q); (case h => walk_at "at"))
  | with_reducible refine R.rng1 ?_ | ((with_reducible refine R.rngE ?h ?q); (case h => (constructor <;> omega)))
  | ((with_reducible refine R.lenT (xs := ?xs) ?h ?q); (case h => walk_at "sqt")) | ((with_reducible refine R.ixT (xs := ?xs) (v := ?v) ?h ?e ?q); (case h => walk_at "sqt"); (case e => walk_at "ix"))
  | ((refine R.itlE (xs := ?xs) ?h ?q); (case h => walk_at "at")) | ((refine R.ittE (xs := ?xs) ?h ?q); (case h => walk_at "at"))
  | ((refine R.gseq (xs := ?xs) ?h ?e ?q); (case h => walk_at "sqa"); (case e => rfl)) | ((refine R.ixA (xs := ?xs) (v := ?v) ?h ?e ?q); (case h => walk_at "sqa"); (case e => walk_at "ix")) | ((refine R.lenA (xs := ?xs) ?h ?q); (case h => walk_at "sqa"))
  | ((with_reducible refine R.gtup (xs := ?xs) ?h ?e ?q); (case h => walk_at "sqt"); (case e => rfl))
  | with_reducible refine R.din_ ?_ | with_reducible refine R.dput_ ?_
  | with_reducible refine R.dget2_ ?_ | ((with_reducible refine R.aug_ (x := ?x) ?h ?q); case h => rfl) | with_reducible refine R.ipI_ ?_
  | with_reducible refine R.rng2 ?_ | ((with_reducible refine R.rngE2 ?h ?q); (case h => (refine ⟨?_, ?_, ?_, ?_⟩ <;> omega)))
  | with_reducible refine R.brk ?_ | with_reducible refine R.intB ?_ | with_reducible refine R.meth_ ?_ | ((refine KN.methS (rs := ?rs) (ms := ?ms) ?h (fun _ _ _ _ => rfl) ?q); case h => walk_at "sys")
  | with_reducible refine R.sl_ ?_ | with_reducible refine R.np_ ?_ | with_reducible refine R.pt_ ?_ | with_reducible refine R.ptE ?_ | with_reducible refine R.dget_ ?_ | with_reducible refine R.revL_ ?_
  | ((refine R.dgetS (kvs := ?kvs) (v := ?v) ?h ?e ?q); (case h => walk_at "at"); (case e => walk_at "dk"))
  | with_reducible refine R.sfld ?_ | with_reducible refine R.fld_ ?_ | with_reducible refine R.dc ?_
  | with_reducible refine R.dget1_ ?_
  | with_reducible refine R.itseq ?_ | with_reducible refine R.itenum ?_
  | with_reducible refine R.itT ?_ | with_reducible refine R.itF ?_ | with_reducible refine R.itNT ?_ | with_reducible refine R.itNF ?_
  | (with_reducible refine R.tup ?_) | (with_reducible refine R.lst ?_))
local macro_rules | `(tactic| walk_at "rd") => `(tactic| (repeat (first | walk_at "r1" | (dsimp only [Int.reduceToNat, List.set_cons_succ, List.set_cons_zero, List.length_cons, List.length_nil, List.nil_append, List.cons_append, List.append_nil]))))
local macro_rules | `(tactic| walk_at "go") => `(tactic| (rw [R.start_eq]; dsimp only [R.startE, List.map_nil]; walk_at "rd"))
namespace KN
open PySem L2 SX R
/-! how many derivations a number has -/
section
variable {rs : List SR} {ms : List MR}
def base0 (rs : List SR) (n : Int) : Int := ((rs.filter fun r => decide (r.v = n)).length : Nat)
def okT (m : MR) (n : Int) : Bool := decide (1 ≤ n / m.v) && decide (n % m.v ≤ m.r) && cle m.c (n / m.v)
def tm (g : Int → Int) (m : MR) (n : Int) : Int := if okT m n = true then (if m.u = true ∧ n / m.v = 1 then 1 else g (n / m.v)) * (if n % m.v = 0 then 1 else g (n % m.v)) else 0
def cntF (rs : List SR) (ms : List MR) : Nat → Int → Int
  | 0, _ => 0
  | f + 1, n => base0 rs n + (ms.map fun m => tm (cntF rs ms f) m n).sum
def cnt (rs : List SR) (ms : List MR) (n : Int) : Int := cntF rs ms (n.toNat + 1) n
theorem okT_iff {m : MR} {n : Int} : okT m n = true ↔ 1 ≤ n / m.v ∧ n % m.v ≤ m.r ∧ cle m.c (n / m.v) = true := by
  unfold okT
  rw [Bool.and_eq_true, Bool.and_eq_true, decide_eq_true_eq, decide_eq_true_eq, and_assoc]
theorem okT_lt {m : MR} {n : Int} (hv : 2 ≤ m.v) (hn : 0 ≤ n) (h : okT m n = true) : 1 ≤ n ∧ 0 ≤ n / m.v ∧ 0 ≤ n % m.v ∧ n / m.v + n % m.v < n := by
  have h1 := (okT_iff.mp h).1
  have h2 : 0 ≤ n % m.v := Int.emod_nonneg _ (by omega)
  have h3 := Int.mul_ediv_add_emod n m.v
  have h4 : 2 * (n / m.v) ≤ m.v * (n / m.v) := Int.mul_le_mul_of_nonneg_right hv (by omega)
  exact ⟨by omega, by omega, h2, by omega⟩
theorem tm_congr {g g' : Int → Int} {m : MR} {n : Int} (hv : 2 ≤ m.v) (hn : 0 ≤ n) (h : ∀ k, 0 ≤ k → k < n → g k = g' k) : tm g m n = tm g' m n := by
  unfold tm
  by_cases q : okT m n = true
  · obtain ⟨h0, h1, h2, h3⟩ := okT_lt hv hn q
    rw [if_pos q, if_pos q, h _ h1 (by omega), h _ h2 (by omega)]
  · rw [if_neg q, if_neg q]
theorem cnt_fuel (hv : ∀ m ∈ ms, 2 ≤ m.v) : ∀ (f g : Nat) (n : Int), 0 ≤ n → n.toNat < f → n.toNat < g → cntF rs ms f n = cntF rs ms g n
  | 0, _, _, _, h, _ => absurd h (Nat.not_lt_zero _)
  | _ + 1, 0, _, _, _, h => absurd h (Nat.not_lt_zero _)
  | f + 1, g + 1, n, hn, h1, h2 => by
    unfold cntF
    congr 2
    refine List.map_congr_left fun m hm => tm_congr (hv m hm) hn fun k k0 k1 => cnt_fuel hv f g k k0 (by omega) (by omega)
theorem cnt_eq (hv : ∀ m ∈ ms, 2 ≤ m.v) {n : Int} (hn : 0 ≤ n) : cnt rs ms n = base0 rs n + (ms.map fun m => tm (cnt rs ms) m n).sum := by
  show base0 rs n + (ms.map fun m => tm (cntF rs ms n.toNat) m n).sum = _
  congr 2
  refine List.map_congr_left fun m hm => tm_congr (hv m hm) hn fun k k0 k1 => cnt_fuel hv _ _ k k0 (by omega) (by omega)
theorem sum_nn : ∀ {l : List Int}, (∀ x ∈ l, 0 ≤ x) → 0 ≤ l.sum
  | [], _ => Int.le_refl _
  | a :: l, h => by
    have h1 := h a List.mem_cons_self
    have h2 := sum_nn (l := l) fun x hx => h x (List.mem_cons_of_mem _ hx)
    rw [List.sum_cons]; omega
theorem sum_ge : ∀ {l : List Int}, (∀ x ∈ l, 0 ≤ x) → ∀ x ∈ l, x ≤ l.sum
  | a :: l, h, x, hx => by
    have h1 := h a List.mem_cons_self
    have h2 := sum_nn (l := l) fun x hx => h x (List.mem_cons_of_mem _ hx)
    rw [List.sum_cons]
    rcases List.mem_cons.mp hx with rfl | q
    · omega
    · have := sum_ge (l := l) (fun x hx => h x (List.mem_cons_of_mem _ hx)) x q
      omega
theorem sum_le : ∀ {l : List Int} {B : Int}, (∀ x ∈ l, x ≤ B) → l.sum ≤ l.length * B
  | [], _, _ => by simp
  | a :: l, B, h => by
    have h1 := h a List.mem_cons_self
    have h2 := sum_le (l := l) (B := B) fun x hx => h x (List.mem_cons_of_mem _ hx)
    rw [List.sum_cons, List.length_cons, Int.natCast_add, Int.add_mul]
    omega
theorem tm_nn {g : Int → Int} (hg : ∀ k, 0 ≤ g k) (m : MR) (n : Int) : 0 ≤ tm g m n := by
  unfold tm
  split
  · refine Int.mul_nonneg ?_ ?_
    · split
      · decide
      · exact hg _
    · split
      · decide
      · exact hg _
  · decide
theorem cntF_nn : ∀ (f : Nat) (n : Int), 0 ≤ cntF rs ms f n
  | 0, _ => Int.le_refl _
  | f + 1, n => by
    unfold cntF
    have h1 : 0 ≤ base0 rs n := by unfold base0; omega
    have h2 : 0 ≤ (ms.map fun m => tm (cntF rs ms f) m n).sum := sum_nn fun x hx => by
      obtain ⟨m, _, rfl⟩ := List.mem_map.mp hx
      exact tm_nn (cntF_nn f) m n
    omega
theorem cnt_nn (n : Int) : 0 ≤ cnt rs ms n := cntF_nn _ _
theorem pow2_pos (k : Nat) : (1 : Int) ≤ 2 ^ k := by
  have : 0 < (2 : Int) ^ k := Int.pow_pos (by decide)
  omega
theorem pow2_mono {a b : Nat} (h : a ≤ b) : (2 : Int) ^ a ≤ 2 ^ b := by
  have e : b = a + (b - a) := by omega
  rw [e, Int.pow_add]
  have h1 := pow2_pos a
  have h2 := pow2_pos (b - a)
  have : (2 : Int) ^ a * 1 ≤ 2 ^ a * 2 ^ (b - a) := Int.mul_le_mul_of_nonneg_left h2 (by omega)
  omega
theorem cntF_size (hv : ∀ m ∈ ms, 2 ≤ m.v) (hr : rs.length ≤ 24) (hm : ms.length ≤ 6) : ∀ (f : Nat) (n : Int), 1 ≤ n → cntF rs ms f n ≤ 2 ^ (8 * n.toNat)
  | 0, n, _ => by
    have := pow2_pos (8 * n.toNat)
    show (0 : Int) ≤ _
    omega
  | f + 1, n, hn => by
    have ih := cntF_size hv hr hm f
    unfold cntF
    have hb : base0 rs n ≤ 24 := by
      unfold base0
      have := List.length_filter_le (fun r : SR => decide (r.v = n)) rs
      omega
    have p1 := pow2_pos (8 * (n.toNat - 1))
    have ht : ∀ m ∈ ms, tm (cntF rs ms f) m n ≤ 2 ^ (8 * (n.toNat - 1)) := fun m hmm => by
      unfold tm
      split
      · rename_i q
        obtain ⟨h0, h1, h2, h3⟩ := okT_lt (hv m hmm) (by omega) q
        have c1 := (okT_iff.mp q).1
        have a1 : (if m.u = true ∧ n / m.v = 1 then 1 else cntF rs ms f (n / m.v)) ≤ 2 ^ (8 * (n / m.v).toNat) := by
          split
          · exact pow2_pos _
          · exact ih _ c1
        have a2 : (if n % m.v = 0 then 1 else cntF rs ms f (n % m.v)) ≤ 2 ^ (8 * (n % m.v).toNat) := by
          split
          · exact pow2_pos _
          · exact ih _ (by omega)
        have n1 : 0 ≤ (if n % m.v = 0 then 1 else cntF rs ms f (n % m.v)) := by
          split
          · decide
          · exact cntF_nn _ _
        have p := pow2_pos (8 * (n / m.v).toNat)
        refine Int.le_trans (Int.mul_le_mul a1 a2 n1 (by omega)) ?_
        rw [← Int.pow_add]
        exact pow2_mono (by omega)
      · omega
    have hs : (ms.map fun m => tm (cntF rs ms f) m n).sum ≤ ms.length * 2 ^ (8 * (n.toNat - 1)) := by
      have := sum_le (l := ms.map fun m => tm (cntF rs ms f) m n) (B := 2 ^ (8 * (n.toNat - 1))) fun x hx => by
        obtain ⟨m, hmm, rfl⟩ := List.mem_map.mp hx
        exact ht m hmm
      rwa [List.length_map] at this
    have e : 8 * n.toNat = 8 * (n.toNat - 1) + 8 := by omega
    rw [e, Int.pow_add]
    have e8 : (2 : Int) ^ 8 = 256 := by decide
    rw [e8]
    generalize (2 : Int) ^ (8 * (n.toNat - 1)) = B at *
    have : (ms.length : Int) * B ≤ 6 * B := Int.mul_le_mul_of_nonneg_right (by omega) (by omega)
    omega
theorem cnt_log (hv : ∀ m ∈ ms, 2 ≤ m.v) (hr : rs.length ≤ 24) (hm : ms.length ≤ 6) {n : Int} (h1 : 1 ≤ n) (h2 : n ≤ 10000) : (cnt rs ms n).natAbs.log2 < 100000 := by
  have a := cntF_size hv hr hm (n.toNat + 1) n h1
  have b : 0 ≤ cntF rs ms (n.toNat + 1) n := cntF_nn _ _
  show (cntF rs ms (n.toNat + 1) n).natAbs.log2 < _
  have c := Int.le_trans a (pow2_mono (show 8 * n.toNat ≤ 80000 by omega))
  generalize cntF rs ms (n.toNat + 1) n = x at *
  by_cases z : x.natAbs = 0
  · rw [z]; decide
  · have q : x.natAbs < 2 ^ 100000 := by
      have e : ((2 ^ 80000 : Nat) : Int) = (2 : Int) ^ 80000 := by rw [Int.natCast_pow]; rfl
      have e2 : x.natAbs ≤ 2 ^ 80000 := by rw [← e] at c; omega
      exact Nat.lt_of_le_of_lt e2 (Nat.pow_lt_pow_right (by decide) (by decide))
    exact (Nat.log2_lt z).mpr q
end
def one0 (rs : List SR) (ms : List MR) (n : Int) : Int := if n = 0 then 1 else cnt rs ms n
theorem one0_log {rs : List SR} {ms : List MR} (hv : ∀ m ∈ ms, 2 ≤ m.v) (hr : rs.length ≤ 24) (hm : ms.length ≤ 6) {n : Int} (h1 : 0 ≤ n) (h2 : n ≤ 10000) : (one0 rs ms n).natAbs.log2 < 100000 := by
  unfold one0
  split
  · decide
  · exact cnt_log hv hr hm (by omega) h2
end KN
end
section
set_option Elab.async false
set_option linter.all false
set_option maxRecDepth 100000
set_option maxHeartbeats 4000000
set_option pp.maxSteps 1500
set_option pp.deepTerms false
local macro_rules | `(tactic| walk_at "ne") => `(tactic| first
  | assumption | (apply Ne.symm; assumption)
  | exact R.ne_new (by assumption) | exact (R.ne_new (by assumption)).symm
  | exact L2.ne_of_none (by assumption) (by assumption) | exact (L2.ne_of_none (by assumption) (by assumption)).symm
  | exact L2.ne_of_none (by assumption) (R.free_new (by assumption)) | exact (L2.ne_of_none (by assumption) (R.free_new (by assumption))).symm)
local macro_rules | `(tactic| walk_at "at") => `(tactic| first
  | assumption | exact L2.upd_same
  | (refine R.sb (H := ?H) (p := ?p) ?e ?n ?h; (case e => assumption); (case n => walk_at "ne"); (case h => walk_at "at"))
  | (refine R.sm (H := ?H) ?e ?h; (case e => assumption); (case h => walk_at "at"))
  | (refine Eq.trans (L2.upd_ne ?_) ?_ <;> first | walk_at "ne" | walk_at "at"))
local macro_rules | `(tactic| walk_at "sqt") => `(tactic| first | assumption | (refine L2.SqT.of ?_; walk_at "at"))
local macro_rules | `(tactic| walk_at "ty") => `(tactic| first | exact R.tyN | exact R.tyB | exact R.tyI | exact R.tyS | (refine R.tyT (xs := ?xs) ?h; case h => walk_at "at") | (refine R.tyL (xs := ?xs) ?h; case h => walk_at "at"))
local macro_rules | `(tactic| walk_at "kit") => `(tactic| first | exact R.kit_NoneType_tuple | exact R.kit_NoneType_list | exact R.kit_NoneType_bool | exact R.kit_NoneType_str | exact R.kit_NoneType_int | exact R.kit_bool_tuple | exact R.kit_bool_list | exact R.kit_bool_bool | exact R.kit_bool_str | exact R.kit_bool_int | exact R.kit_int_tuple | exact R.kit_int_list | exact R.kit_int_bool | exact R.kit_int_str | exact R.kit_int_int | exact R.kit_str_tuple | exact R.kit_str_list | exact R.kit_str_bool | exact R.kit_str_str | exact R.kit_str_int | exact R.kit_tuple_tuple | exact R.kit_tuple_list | exact R.kit_tuple_bool | exact R.kit_tuple_str | exact R.kit_tuple_int | exact R.kit_list_tuple | exact R.kit_list_list | exact R.kit_list_bool | exact R.kit_list_str | exact R.kit_list_int)
local macro_rules | `(tactic| walk_at "sz") => `(tactic| first | assumption | (refine Nat.le_trans ?_ (show 1000 ≤ PySem.sizeLine by decide); omega) | decide)
local macro_rules | `(tactic| walk_at "szl") => `(tactic| first | assumption | exact Nat.le_of_lt (L2.small1000 (by omega)) | decide | decide +kernel)
local macro_rules | `(tactic| walk_at "sys") => `(tactic| first | assumption | exact KN.SysAt.same (by assumption) (by assumption))
local macro_rules | `(tactic| walk_at "dk") => `(tactic| first | exact R.rowsS _ _ | exact R.rowsM _ _)
local macro_rules | `(tactic| walk_at "sqa") => `(tactic| first | assumption | exact R.SeqA.same (by assumption) (by assumption) | exact R.SeqA.new (by assumption) (by assumption) | (exact Or.inl (by walk_at "at")) | (exact Or.inr (by walk_at "at")))
local macro_rules | `(tactic| walk_at "ix") => `(tactic| first | rfl | (exact L2.atI_nat (by assumption)) | assumption)
local macro_rules | `(tactic| walk_at "cond") => `(tactic| first
  | exact Or.inl (by decide) | exact Or.inr (by decide) | exact Or.inl ⟨by omega, by omega⟩ | exact Or.inr ⟨by omega, by omega⟩
  | (constructor <;> omega) | (show _ ≠ _; omega) | decide | omega)
local macro_rules | `(tactic| walk_at "r1") => `(tactic| first
  | with_reducible refine R.seq ?_ | with_reducible refine R.asg ?_ | with_reducible refine R.ifs ?_ | with_reducible refine R.ret ?_ | with_reducible refine R.retN ?_ | with_reducible refine R.drop ?_ | with_reducible refine R.next ?_
  | with_reducible refine R.op ?_ | ((with_reducible refine R.var (v := ?v) ?h ?q); case h => rfl) | with_reducible refine R.c ?_ | with_reducible refine R.tst ?_ | with_reducible refine R.tb_ ?_ | with_reducible refine R.ex ?_
  | with_reducible refine R.i0 ?_ | with_reducible refine R.eqI ?_ | with_reducible refine R.neI ?_ | ((with_reducible refine R.ic ?_ ?_); · walk_at "cond") | with_reducible refine R.u0 ?_ | with_reducible refine R.un ?_
  | ((with_reducible refine R.eq ?_ ?_); · rfl) | ((with_reducible refine R.ne ?_ ?_); · rfl)
  | with_reducible refine R.and_ ?_ | with_reducible refine R.or_ ?_ | with_reducible refine R.not_ ?_ | with_reducible refine R.ife ?_ | with_reducible refine R.chain ?_
  | with_reducible refine R.cons ?_ | with_reducible refine R.nil ?_ | with_reducible refine R.call ?_ | with_reducible refine R.cb ?_ | with_reducible refine R.bm ?_
  | with_reducible refine R.gname ?_ | with_reducible refine R.gsub ?_ | with_reducible refine R.gnil ?_ | with_reducible refine R.gcons ?_ | with_reducible refine R.yes ?_
  | with_reducible refine R.int1 ?_ | ((with_reducible refine R.lenL (xs := ?xs) ?h ?q); case h => walk_at "at")
  | ((with_reducible refine R.ixL (xs := ?xs) (v := ?v) ?h ?e ?q); (case h => walk_at "at"); (case e => walk_at "ix"))
  | ((with_reducible refine R.setL (xs := ?xs) (n := ?n) ?h ?e ?q); (case h => walk_at "at"); (case e => rfl))
  | ((with_reducible refine R.append (xs := ?xs) ?h ?e ?q); (case h => walk_at "at"); (case e => walk_at "cond"))
  | with_reducible refine R.is_ ?_ | with_reducible refine R.isnot ?_ | with_reducible refine R.andV ?_ | with_reducible refine R.orV ?_ | with_reducible refine R.notV ?_
  | ((with_reducible refine R.isi (s := ?s) (b := ?b) ?ty ?h ?q); (case ty => walk_at "ty"); (case h => walk_at "kit"))
  | ((with_reducible refine R.addS ?h ?q); (case h => walk_at "sz")) | with_reducible refine R.max2 ?_ | with_reducible refine R.min2 ?_
  | ((with_reducible refine R.lenStr ?h ?q); (case h => walk_at "szl")) | ((with_reducible refine R.ixS (n := ?n) ?h ?e ?q); (case h => walk_at "szl"); (case e => walk_at "ix"))
  | ((with_reducible refine R.tyl (xs := ?xs) ?h ?q); (case h => walk_at "at")) | with_reducible refine R.itlist ?_ | with_reducible refine R.ittup ?_ | with_reducible refine R.m1 ?_ | with_reducible refine R.m1s ?_ | with_reducible refine R.leS ?_ | with_reducible refine R.itstr ?_ | with_reducible refine R.itstrE ?_ | with_reducible refine R.lc ?_ | with_reducible refine R.lc2 ?_ | with_reducible refine R.ckw ?_ | with_reducible refine R.par ?_ | with_reducible refine R.parE ?_ | with_reducible refine R.itrev ?_ | with_reducible refine R.dsetd ?_ | with_reducible refine R.dnotin_ ?_ | with_reducible refine R.for_ ?_ | ((with_reducible refine R.all_ (bs := ?bs) ?h ?q); (case h => walk_at "at"))
  | with_reducible refine R.rng1 ?_ | ((with_reducible refine R.rngE ?h ?q); (case h => (constructor <;> omega)))
  | ((with_reducible refine R.lenT (xs := ?xs) ?h ?q); (case h => walk_at "sqt")) | ((with_reducible refine R.ixT (xs := ?xs) (v := ?v) ?h ?e ?q); (case h => walk_at "sqt"); (case e => walk_at "ix"))
  | ((refine R.itlE (xs := ?xs) ?h ?q); (case h => walk_at "at")) | ((refine R.ittE (xs := ?xs) ?h ?q); (case h => walk_at "at"))
  | ((refine R.gseq (xs := ?xs) ?h ?e ?q); (case h => walk_at "sqa"); (case e => rfl)) | ((refine R.ixA (xs := ?xs) (v := ?v) ?h ?e ?q); (case h => walk_at "sqa"); (case e => walk_at "ix")) | ((refine R.lenA (xs := ?xs) ?h ?q); (case h => walk_at "sqa"))
  | ((with_reducible refine R.gtup (xs := ?xs) ?h ?e ?q); (case h => walk_at "sqt"); (case e => rfl))
  | with_reducible refine R.din_ ?_ | with_reducible refine R.dput_ ?_
  | with_reducible refine R.dget2_ ?_ | ((with_reducible refine R.aug_ (x := ?x) ?h ?q); case h => rfl) | with_reducible refine R.ipI_ ?_
  | with_reducible refine R.rng2 ?_ | ((with_reducible refine R.rngE2 ?h ?q); (case h => (refine ⟨?_, ?_, ?_, ?_⟩ <;> omega)))
  | with_reducible refine R.brk ?_ | with_reducible refine R.intB ?_ | with_reducible refine R.meth_ ?_ | ((refine KN.methS (rs := ?rs) (ms := ?ms) ?h (fun _ _ _ _ => rfl) ?q); case h => walk_at "sys")
  | with_reducible refine R.sl_ ?_ | with_reducible refine R.np_ ?_ | with_reducible refine R.pt_ ?_ | with_reducible refine R.ptE ?_ | with_reducible refine R.dget_ ?_ | with_reducible refine R.revL_ ?_
  | ((refine R.dgetS (kvs := ?kvs) (v := ?v) ?h ?e ?q); (case h => walk_at "at"); (case e => walk_at "dk"))
  | with_reducible refine R.sfld ?_ | with_reducible refine R.fld_ ?_ | with_reducible refine R.dc ?_
  | with_reducible refine R.dget1_ ?_
  | with_reducible refine R.itseq ?_ | with_reducible refine R.itenum ?_
  | with_reducible refine R.itT ?_ | with_reducible refine R.itF ?_ | with_reducible refine R.itNT ?_ | with_reducible refine R.itNF ?_
  | (with_reducible refine R.tup ?_) | (with_reducible refine R.lst ?_))
local macro_rules | `(tactic| walk_at "rd") => `(tactic| (repeat (first | walk_at "r1" | (dsimp only [Int.reduceToNat, List.set_cons_succ, List.set_cons_zero, List.length_cons, List.length_nil, List.nil_append, List.cons_append, List.append_nil]))))
local macro_rules | `(tactic| walk_at "go") => `(tactic| (rw [R.start_eq]; dsimp only [R.startE, List.map_nil]; walk_at "rd"))
namespace KN
open PySem L2 SX R
open C8 (Cal Def cal0 pe_c pe_gc fnScope fnBody pss_cut Met pe_mt pe_mt0)
section
variable {P : Program} {w : World} {K : PySem.W.Frag} {mg : Str → Option Value} {base : Heap}
structure WM (m : MR) : Prop where
  lo : 2 ≤ m.v
  hi : m.v ≤ 100000
  r0 : 0 ≤ m.r
  r1 : m.r < m.v
structure WSys (rs : List SR) (ms : List MR) : Prop where
  m : ∀ m ∈ ms, WM m
  sl : rs.length ≤ 24
  ml : ms.length ≤ 6
theorem GoodSys.weak {rs : List SR} {ms : List MR} (g : GoodSys rs ms) : WSys rs ms := ⟨fun m hm => ⟨(g.m m hm).lo, (g.m m hm).hi, (g.m m hm).r0, (g.m m hm).r1⟩, g.sl, g.ml⟩
theorem catT {H : Hp} {Q : VK} {a b : Addr} {xs ys : List V} (h1 : H a = some (.tup xs)) (h2 : H b = some (.tup ys)) (hz : xs.length + ys.length ≤ sizeLine) (q : ∀ p H', Same H H' → H' p = some (.tup (xs ++ ys)) → Q (.ref p) H') : rCatA K (.ref a) (.ref b) H Q := by
  refine ⟨a, b, xs, ys, rfl, rfl, SqT.of h1, SqT.of h2, hz, fun e => ?_, fun _ e => ?_, fun _ _ p hp => ?_⟩
  · subst e; exact q b H (Same.refl H) h2
  · subst e; exact q a H (Same.refl H) (by rw [List.append_nil]; exact h1)
  · exact q p _ (same_new (Same.refl H) hp) upd_same
theorem base_none {rs : List SR} {n : Int} (h : ∀ r ∈ rs, r.v ≠ n) : base0 rs n = 0 := by
  unfold base0
  rw [List.filter_eq_nil_iff.mpr (fun r hr => by rw [decide_eq_true_eq]; exact h r hr)]
  rfl
theorem base_some {rs : List SR} {n : Int} {r : SR} (h : r ∈ rs) (e : r.v = n) : 0 < base0 rs n := by
  unfold base0
  have : 0 < (rs.filter fun r => decide (r.v = n)).length := List.length_pos_of_mem (List.mem_filter.mpr ⟨h, decide_eq_true e⟩)
  omega
theorem base_nn (rs : List SR) (n : Int) : 0 ≤ base0 rs n := by unfold base0; omega
theorem keys_put (kvs : List (Key × V)) (q : Key) (v : V) : (q ∈ kvs.map (·.1) ∧ (putK kvs q v).map (·.1) = kvs.map (·.1)) ∨ (q ∉ kvs.map (·.1) ∧ (putK kvs q v).map (·.1) = kvs.map (·.1) ++ [q]) := by
  unfold putK
  by_cases e : (kvs.any fun kv => decide (kv.1 = q)) = true
  · rw [if_pos e]
    refine .inl ⟨?_, ?_⟩
    · obtain ⟨a, h1, h2⟩ := List.any_eq_true.mp e
      exact List.mem_map.mpr ⟨a, h1, of_decide_eq_true h2⟩
    · rw [List.map_map]
      refine List.map_congr_left fun a _ => ?_
      show (if a.1 = q then (a.1, v) else a).1 = a.1
      split <;> rfl
  · rw [if_neg e]
    refine .inr ⟨fun h => e ?_, ?_⟩
    · obtain ⟨a, h1, h2⟩ := List.mem_map.mp h
      exact List.any_eq_true.mpr ⟨a, h1, decide_eq_true h2⟩
    · rw [List.map_append]
      rfl
theorem known_len {l : List Key} (hn : l.Nodup) (h : ∀ q ∈ l, ∃ n : Int, q = Sum.inl n ∧ 1 ≤ n ∧ n ≤ 9000) : l.length ≤ 9000 := by
  by_cases z : l.length ≤ 9000
  · exact z
  · obtain ⟨q, h1, h2⟩ := one_free l ((List.range 9000).map fun i => (Sum.inl ((i : Nat) + 1 : Int) : Key)) hn (by rw [List.length_map, List.length_range]; omega)
    obtain ⟨n, rfl, n1, n2⟩ := h q h1
    refine absurd (List.mem_map.mpr ⟨(n - 1).toNat, List.mem_range.mpr (by omega), ?_⟩) h2
    exact congrArg Sum.inl (by omega)
theorem small_log {a : Int} (h0 : 0 ≤ a) (h1 : a < 2 ^ 64) : a.natAbs.log2 < 64 := by
  by_cases z : a.natAbs = 0
  · rw [z]; decide
  · exact (Nat.log2_lt z).mpr (by omega)
theorem small1000' {n : Nat} (h : n ≤ 10000) : n < sizeLine := Nat.lt_of_le_of_lt h (by decide)
theorem itnY {C A B : Prop} [Decidable C] (h : C) (q : B) : if (!decide C) = true then A else B := by rw [decide_eq_true h]; exact q
theorem itnN {C A B : Prop} [Decidable C] (h : ¬ C) (q : A) : if (!decide C) = true then A else B := by rw [decide_eq_false h]; exact q
end
end KN
end
section
set_option Elab.async false
set_option linter.all false
set_option maxRecDepth 100000
set_option maxHeartbeats 4000000
set_option pp.maxSteps 1500
set_option pp.deepTerms false
local macro_rules | `(tactic| walk_at "ne") => `(tactic| first
  | assumption | (apply Ne.symm; assumption)
  | exact R.ne_new (by assumption) | exact (R.ne_new (by assumption)).symm
  | exact L2.ne_of_none (by assumption) (by assumption) | exact (L2.ne_of_none (by assumption) (by assumption)).symm
  | exact L2.ne_of_none (by assumption) (R.free_new (by assumption)) | exact (L2.ne_of_none (by assumption) (R.free_new (by assumption))).symm)
local macro_rules | `(tactic| walk_at "at") => `(tactic| first
  | assumption | exact L2.upd_same
  | (refine R.sb (H := ?H) (p := ?p) ?e ?n ?h; (case e => assumption); (case n => walk_at "ne"); (case h => walk_at "at"))
  | (refine R.sm (H := ?H) ?e ?h; (case e => assumption); (case h => walk_at "at"))
  | (refine Eq.trans (L2.upd_ne ?_) ?_ <;> first | walk_at "ne" | walk_at "at"))
local macro_rules | `(tactic| walk_at "sqt") => `(tactic| first | assumption | (refine L2.SqT.of ?_; walk_at "at"))
local macro_rules | `(tactic| walk_at "ty") => `(tactic| first | exact R.tyN | exact R.tyB | exact R.tyI | exact R.tyS | (refine R.tyT (xs := ?xs) ?h; case h => walk_at "at") | (refine R.tyL (xs := ?xs) ?h; case h => walk_at "at"))
local macro_rules | `(tactic| walk_at "kit") => `(tactic| first | exact R.kit_NoneType_tuple | exact R.kit_NoneType_list | exact R.kit_NoneType_bool | exact R.kit_NoneType_str | exact R.kit_NoneType_int | exact R.kit_bool_tuple | exact R.kit_bool_list | exact R.kit_bool_bool | exact R.kit_bool_str | exact R.kit_bool_int | exact R.kit_int_tuple | exact R.kit_int_list | exact R.kit_int_bool | exact R.kit_int_str | exact R.kit_int_int | exact R.kit_str_tuple | exact R.kit_str_list | exact R.kit_str_bool | exact R.kit_str_str | exact R.kit_str_int | exact R.kit_tuple_tuple | exact R.kit_tuple_list | exact R.kit_tuple_bool | exact R.kit_tuple_str | exact R.kit_tuple_int | exact R.kit_list_tuple | exact R.kit_list_list | exact R.kit_list_bool | exact R.kit_list_str | exact R.kit_list_int)
local macro_rules | `(tactic| walk_at "sz") => `(tactic| first | assumption | (refine Nat.le_trans ?_ (show 1000 ≤ PySem.sizeLine by decide); omega) | decide)
local macro_rules | `(tactic| walk_at "szl") => `(tactic| first | assumption | exact Nat.le_of_lt (L2.small1000 (by omega)) | decide | decide +kernel)
local macro_rules | `(tactic| walk_at "sys") => `(tactic| first | assumption | exact KN.SysAt.same (by assumption) (by assumption))
local macro_rules | `(tactic| walk_at "dk") => `(tactic| first | exact R.rowsS _ _ | exact R.rowsM _ _)
local macro_rules | `(tactic| walk_at "sqa") => `(tactic| first | assumption | exact R.SeqA.same (by assumption) (by assumption) | exact R.SeqA.new (by assumption) (by assumption) | (exact Or.inl (by walk_at "at")) | (exact Or.inr (by walk_at "at")))
local macro_rules | `(tactic| walk_at "ix") => `(tactic| first | rfl | (exact L2.atI_nat (by assumption)) | assumption)
local macro_rules | `(tactic| walk_at "cond") => `(tactic| first
  | exact Or.inl (by decide) | exact Or.inr (by decide) | exact Or.inl ⟨by omega, by omega⟩ | exact Or.inr ⟨by omega, by omega⟩
  | (constructor <;> omega) | (show _ ≠ _; omega) | decide | omega)
local macro_rules | `(tactic| walk_at "r1") => `(tactic| first
  | with_reducible refine R.seq ?_ | with_reducible refine R.asg ?_ | with_reducible refine R.ifs ?_ | with_reducible refine R.ret ?_ | with_reducible refine R.retN ?_ | with_reducible refine R.drop ?_ | with_reducible refine R.next ?_
  | with_reducible refine R.op ?_ | ((with_reducible refine R.var (v := ?v) ?h ?q); case h => rfl) | with_reducible refine R.c ?_ | with_reducible refine R.tst ?_ | with_reducible refine R.tb_ ?_ | with_reducible refine R.ex ?_
  | with_reducible refine R.i0 ?_ | with_reducible refine R.eqI ?_ | with_reducible refine R.neI ?_ | ((with_reducible refine R.ic ?_ ?_); · walk_at "cond") | with_reducible refine R.u0 ?_ | with_reducible refine R.un ?_
  | ((with_reducible refine R.eq ?_ ?_); · rfl) | ((with_reducible refine R.ne ?_ ?_); · rfl)
  | with_reducible refine R.and_ ?_ | with_reducible refine R.or_ ?_ | with_reducible refine R.not_ ?_ | with_reducible refine R.ife ?_ | with_reducible refine R.chain ?_
  | with_reducible refine R.cons ?_ | with_reducible refine R.nil ?_ | with_reducible refine R.call ?_ | with_reducible refine R.cb ?_ | with_reducible refine R.bm ?_
  | with_reducible refine R.gname ?_ | with_reducible refine R.gsub ?_ | with_reducible refine R.gnil ?_ | with_reducible refine R.gcons ?_ | with_reducible refine R.yes ?_
  | with_reducible refine R.int1 ?_ | ((with_reducible refine R.lenL (xs := ?xs) ?h ?q); case h => walk_at "at")
  | ((with_reducible refine R.ixL (xs := ?xs) (v := ?v) ?h ?e ?q); (case h => walk_at "at"); (case e => walk_at "ix"))
  | ((with_reducible refine R.setL (xs := ?xs) (n := ?n) ?h ?e ?q); (case h => walk_at "at"); (case e => rfl))
  | ((with_reducible refine R.append (xs := ?xs) ?h ?e ?q); (case h => walk_at "at"); (case e => walk_at "cond"))
  | with_reducible refine R.is_ ?_ | with_reducible refine R.isnot ?_ | with_reducible refine R.andV ?_ | with_reducible refine R.orV ?_ | with_reducible refine R.notV ?_
  | ((with_reducible refine R.isi (s := ?s) (b := ?b) ?ty ?h ?q); (case ty => walk_at "ty"); (case h => walk_at "kit"))
  | ((with_reducible refine R.addS ?h ?q); (case h => walk_at "sz")) | with_reducible refine R.max2 ?_ | with_reducible refine R.min2 ?_
  | ((with_reducible refine R.lenStr ?h ?q); (case h => walk_at "szl")) | ((with_reducible refine R.ixS (n := ?n) ?h ?e ?q); (case h => walk_at "szl"); (case e => walk_at "ix"))
  | ((with_reducible refine R.tyl (xs := ?xs) ?h ?q); (case h => walk_at "at")) | with_reducible refine R.itlist ?_ | with_reducible refine R.ittup ?_ | with_reducible refine R.m1 ?_ | with_reducible refine R.m1s ?_ | with_reducible refine R.leS ?_ | with_reducible refine R.itstr ?_ | with_reducible refine R.itstrE ?_ | with_reducible refine R.lc ?_ | with_reducible refine R.lc2 ?_ | with_reducible refine R.ckw ?_ | with_reducible refine R.par ?_ | with_reducible refine R.parE ?_ | with_reducible refine R.itrev ?_ | with_reducible refine R.dsetd ?_ | with_reducible refine R.dnotin_ ?_ | with_reducible refine R.for_ ?_ | ((with_reducible refine R.all_ (bs := ?bs) ?h ?q); (case h => walk_at "at"))
  | with_reducible refine R.rng1 ?_ | ((with_reducible refine R.rngE ?h ?q); (case h => (constructor <;> omega)))
  | ((with_reducible refine R.lenT (xs := ?xs) ?h ?q); (case h => walk_at "sqt")) | ((with_reducible refine R.ixT (xs := ?xs) (v := ?v) ?h ?e ?q); (case h => walk_at "sqt"); (case e => walk_at "ix"))
  | ((refine R.itlE (xs := ?xs) ?h ?q); (case h => walk_at "at")) | ((refine R.ittE (xs := ?xs) ?h ?q); (case h => walk_at "at"))
  | ((refine R.gseq (xs := ?xs) ?h ?e ?q); (case h => walk_at "sqa"); (case e => rfl)) | ((refine R.ixA (xs := ?xs) (v := ?v) ?h ?e ?q); (case h => walk_at "sqa"); (case e => walk_at "ix")) | ((refine R.lenA (xs := ?xs) ?h ?q); (case h => walk_at "sqa"))
  | ((with_reducible refine R.gtup (xs := ?xs) ?h ?e ?q); (case h => walk_at "sqt"); (case e => rfl))
  | with_reducible refine R.din_ ?_ | with_reducible refine R.dput_ ?_
  | with_reducible refine R.dget2_ ?_ | ((with_reducible refine R.aug_ (x := ?x) ?h ?q); case h => rfl) | with_reducible refine R.ipI_ ?_
  | with_reducible refine R.rng2 ?_ | ((with_reducible refine R.rngE2 ?h ?q); (case h => (refine ⟨?_, ?_, ?_, ?_⟩ <;> omega)))
  | with_reducible refine R.brk ?_ | with_reducible refine R.intB ?_ | with_reducible refine R.meth_ ?_ | ((refine KN.methS (rs := ?rs) (ms := ?ms) ?h (fun _ _ _ _ => rfl) ?q); case h => walk_at "sys")
  | with_reducible refine R.sl_ ?_ | with_reducible refine R.np_ ?_ | with_reducible refine R.pt_ ?_ | with_reducible refine R.ptE ?_ | with_reducible refine R.dget_ ?_ | with_reducible refine R.revL_ ?_
  | ((refine R.dgetS (kvs := ?kvs) (v := ?v) ?h ?e ?q); (case h => walk_at "at"); (case e => walk_at "dk"))
  | with_reducible refine R.sfld ?_ | with_reducible refine R.fld_ ?_ | with_reducible refine R.dc ?_
  | with_reducible refine R.dget1_ ?_
  | with_reducible refine R.itseq ?_ | with_reducible refine R.itenum ?_
  | with_reducible refine R.itT ?_ | with_reducible refine R.itF ?_ | with_reducible refine R.itNT ?_ | with_reducible refine R.itNF ?_
  | (with_reducible refine R.tup ?_) | (with_reducible refine R.lst ?_))
local macro_rules | `(tactic| walk_at "rd") => `(tactic| (repeat (first | walk_at "r1" | (dsimp only [Int.reduceToNat, List.set_cons_succ, List.set_cons_zero, List.length_cons, List.length_nil, List.nil_append, List.cons_append, List.append_nil]))))
local macro_rules | `(tactic| walk_at "go") => `(tactic| (rw [R.start_eq]; dsimp only [R.startE, List.map_nil]; walk_at "rd"))
namespace KN
open PySem L2 SX R
open C8 (Cal Def cal0 pe_c pe_gc fnScope fnBody pss_cut)
section
variable {P : Program} {w : World} {K : PySem.W.Frag} {mg : Str → Option Value} {base : Heap}
def spSmall : Sp := fun vs H Q _ => ∃ (p l : Addr) (cs : List Int), vs = [.ref p] ∧ PoolAt H p l ∧ H l = some (.lst (cs.map V.int)) ∧
  ∀ (H' : Hp) (r : Addr) (rs : List SR) (ms : List MR), SameBut p H H' → PoolAt H' p l → RowsAt H' r rs ms → Drawn 30 1000 99 rs ms → bmax rs ms ≤ 3000 → Q (.ref r) H'
theorem Drawn.bm {sv mv mc : Int} {rs : List SR} {ms : List MR} (d : Drawn sv mv mc rs ms) (h0 : 0 ≤ mc) {B : Int} (h1 : 0 ≤ B) (h2 : sv ≤ B) (h3 : mc * mv + mv ≤ B) : bmax rs ms ≤ B := by
  obtain ⟨a1, a2, a3⟩ := bms_max rs 0
  obtain ⟨b1, b2, b3⟩ := bmm_max ms (bms 0 rs)
  unfold bmax
  rcases b3 with h | ⟨m, hm, c, hc, h⟩
  · rw [h]
    rcases a3 with g | ⟨r, hr, g⟩
    · omega
    · have := d.s r hr; omega
  · rw [h]
    have g := d.g.m m hm
    have c1 := d.c m hm c hc
    have v1 := d.v m hm
    have r1 := g.r1
    have lo := g.lo
    have : c * m.v ≤ mc * mv := Int.mul_le_mul c1 v1 (by omega) h0
    omega
theorem Drawn.edge {sv mc : Int} {rs : List SR} {ms : List MR} (d : Drawn sv 1000 mc rs ms) (h : bmax rs ms ≤ 3000) : edgeF rs ms ≤ 4000 := by
  unfold edgeF
  cases e : endF ms with
  | none => dsimp only; omega
  | some m =>
    have := d.v m (List.mem_of_find?_eq_some e)
    dsimp only
    rcases mx_or (bmax rs ms) m.v with q | q <;> rw [q] <;> omega
theorem c_smallB (Z : Zs mg) (c_rows : Cal P w K mg base 6 "_law_rows" (spDrawn 30 1000 99) []) (c_regular : Cal P w K mg base 4 "_law_regular" spReg []) (c_bounded : Cal P w K mg base 1 "_law_bounded" (spRows1 fun rs ms => .int (bmax rs ms)) [])
    {f : Addr} {fd : FuncData} (F : Def K mg "_law_small" sSmall f fd) (b : Binds K fd ["pool"] []) : Cal P w K mg base 7 "_law_small" spSmall [] := by
  refine cal0 F b .nil scSmall (fun vs H Q E h => ?_) (fun cdv A outer s H vs Q E hr h => ?_)
  · obtain ⟨p, l, cs, rfl, _⟩ := h
    rfl
  · obtain ⟨p, l, cs, rfl, hP, hl, k⟩ := h
    refine ⟨_, pss_cons (ps_set (i := 1) scSmall.nd rfl (Or.inl rfl) (pe_c c_rows hr (by omega) (by rfl) (pa_cons (pv 0) pa_nil)))
      (pss_one (ps_ret (pe_ifExp (pt_cmpR op_lt (pe_c c_bounded hr (by omega) (by rfl) (pa_cons (pv 1) pa_nil)) pe_int (nomark _)) (pv 1) (pe_c c_regular hr (by omega) (by rfl) (pa_cons (pv 0) pa_nil))))), ?_⟩
    walk_at "go"
    refine ⟨p, l, cs, rfl, hP, hl, fun H1 r rs ms e1 P1 R1 dr => ?_⟩
    have hl1 := e1 _ _ hP.ne hl
    walk_at "rd"
    refine ⟨r, rs, ms, rfl, R1, dr.g, fun H2 s2 => ?_⟩
    walk_at "rd"
    refine it (fun h1 => ?_) (fun h1 => ?_)
    · walk_at "rd"
      exact k _ r rs ms (e1.trans (SameBut.of s2)) (P1.same s2) (R1.same s2) dr (by omega)
    · walk_at "rd"
      exact ⟨p, l, cs, rfl, P1.same s2, s2 _ _ hl1, fun H' r s m xs ys rs ms _ _ _ a b _ _ c1 c2 c3 c4 c5 d _ => k H' r rs ms ((e1.trans (SameBut.of s2)).trans a) b ⟨s, m, xs, ys, c1, c2, c3, c4, c5⟩ (d.mono (by decide) (by decide) (by decide)) (d.bm (by decide) (by decide) (by decide) (by decide))⟩
end
end KN
end
section
set_option Elab.async false
set_option linter.all false
set_option maxRecDepth 100000
set_option maxHeartbeats 4000000
set_option pp.maxSteps 1500
set_option pp.deepTerms false
local macro_rules | `(tactic| walk_at "ne") => `(tactic| first
  | assumption | (apply Ne.symm; assumption)
  | exact R.ne_new (by assumption) | exact (R.ne_new (by assumption)).symm
  | exact L2.ne_of_none (by assumption) (by assumption) | exact (L2.ne_of_none (by assumption) (by assumption)).symm
  | exact L2.ne_of_none (by assumption) (R.free_new (by assumption)) | exact (L2.ne_of_none (by assumption) (R.free_new (by assumption))).symm)
local macro_rules | `(tactic| walk_at "at") => `(tactic| first
  | assumption | exact L2.upd_same
  | (refine R.sb (H := ?H) (p := ?p) ?e ?n ?h; (case e => assumption); (case n => walk_at "ne"); (case h => walk_at "at"))
  | (refine R.sm (H := ?H) ?e ?h; (case e => assumption); (case h => walk_at "at"))
  | (refine Eq.trans (L2.upd_ne ?_) ?_ <;> first | walk_at "ne" | walk_at "at"))
local macro_rules | `(tactic| walk_at "sqt") => `(tactic| first | assumption | (refine L2.SqT.of ?_; walk_at "at"))
local macro_rules | `(tactic| walk_at "ty") => `(tactic| first | exact R.tyN | exact R.tyB | exact R.tyI | exact R.tyS | (refine R.tyT (xs := ?xs) ?h; case h => walk_at "at") | (refine R.tyL (xs := ?xs) ?h; case h => walk_at "at"))
local macro_rules | `(tactic| walk_at "kit") => `(tactic| first | exact R.kit_NoneType_tuple | exact R.kit_NoneType_list | exact R.kit_NoneType_bool | exact R.kit_NoneType_str | exact R.kit_NoneType_int | exact R.kit_bool_tuple | exact R.kit_bool_list | exact R.kit_bool_bool | exact R.kit_bool_str | exact R.kit_bool_int | exact R.kit_int_tuple | exact R.kit_int_list | exact R.kit_int_bool | exact R.kit_int_str | exact R.kit_int_int | exact R.kit_str_tuple | exact R.kit_str_list | exact R.kit_str_bool | exact R.kit_str_str | exact R.kit_str_int | exact R.kit_tuple_tuple | exact R.kit_tuple_list | exact R.kit_tuple_bool | exact R.kit_tuple_str | exact R.kit_tuple_int | exact R.kit_list_tuple | exact R.kit_list_list | exact R.kit_list_bool | exact R.kit_list_str | exact R.kit_list_int)
local macro_rules | `(tactic| walk_at "sz") => `(tactic| first | assumption | (refine Nat.le_trans ?_ (show 1000 ≤ PySem.sizeLine by decide); omega) | decide)
local macro_rules | `(tactic| walk_at "szl") => `(tactic| first | assumption | exact Nat.le_of_lt (L2.small1000 (by omega)) | decide | decide +kernel)
local macro_rules | `(tactic| walk_at "sys") => `(tactic| first | assumption | exact KN.SysAt.same (by assumption) (by assumption))
local macro_rules | `(tactic| walk_at "dk") => `(tactic| first | exact R.rowsS _ _ | exact R.rowsM _ _)
local macro_rules | `(tactic| walk_at "sqa") => `(tactic| first | assumption | exact R.SeqA.same (by assumption) (by assumption) | exact R.SeqA.new (by assumption) (by assumption) | (exact Or.inl (by walk_at "at")) | (exact Or.inr (by walk_at "at")))
local macro_rules | `(tactic| walk_at "ix") => `(tactic| first | rfl | (exact L2.atI_nat (by assumption)) | assumption)
local macro_rules | `(tactic| walk_at "cond") => `(tactic| first
  | exact Or.inl (by decide) | exact Or.inr (by decide) | exact Or.inl ⟨by omega, by omega⟩ | exact Or.inr ⟨by omega, by omega⟩
  | (constructor <;> omega) | (show _ ≠ _; omega) | decide | omega)
local macro_rules | `(tactic| walk_at "r1") => `(tactic| first
  | with_reducible refine R.seq ?_ | with_reducible refine R.asg ?_ | with_reducible refine R.ifs ?_ | with_reducible refine R.ret ?_ | with_reducible refine R.retN ?_ | with_reducible refine R.drop ?_ | with_reducible refine R.next ?_
  | with_reducible refine R.op ?_ | ((with_reducible refine R.var (v := ?v) ?h ?q); case h => rfl) | with_reducible refine R.c ?_ | with_reducible refine R.tst ?_ | with_reducible refine R.tb_ ?_ | with_reducible refine R.ex ?_
  | with_reducible refine R.i0 ?_ | with_reducible refine R.eqI ?_ | with_reducible refine R.neI ?_ | ((with_reducible refine R.ic ?_ ?_); · walk_at "cond") | with_reducible refine R.u0 ?_ | with_reducible refine R.un ?_
  | ((with_reducible refine R.eq ?_ ?_); · rfl) | ((with_reducible refine R.ne ?_ ?_); · rfl)
  | with_reducible refine R.and_ ?_ | with_reducible refine R.or_ ?_ | with_reducible refine R.not_ ?_ | with_reducible refine R.ife ?_ | with_reducible refine R.chain ?_
  | with_reducible refine R.cons ?_ | with_reducible refine R.nil ?_ | with_reducible refine R.call ?_ | with_reducible refine R.cb ?_ | with_reducible refine R.bm ?_
  | with_reducible refine R.gname ?_ | with_reducible refine R.gsub ?_ | with_reducible refine R.gnil ?_ | with_reducible refine R.gcons ?_ | with_reducible refine R.yes ?_
  | with_reducible refine R.int1 ?_ | ((with_reducible refine R.lenL (xs := ?xs) ?h ?q); case h => walk_at "at")
  | ((with_reducible refine R.ixL (xs := ?xs) (v := ?v) ?h ?e ?q); (case h => walk_at "at"); (case e => walk_at "ix"))
  | ((with_reducible refine R.setL (xs := ?xs) (n := ?n) ?h ?e ?q); (case h => walk_at "at"); (case e => rfl))
  | ((with_reducible refine R.append (xs := ?xs) ?h ?e ?q); (case h => walk_at "at"); (case e => walk_at "cond"))
  | with_reducible refine R.is_ ?_ | with_reducible refine R.isnot ?_ | with_reducible refine R.andV ?_ | with_reducible refine R.orV ?_ | with_reducible refine R.notV ?_
  | ((with_reducible refine R.isi (s := ?s) (b := ?b) ?ty ?h ?q); (case ty => walk_at "ty"); (case h => walk_at "kit"))
  | ((with_reducible refine R.addS ?h ?q); (case h => walk_at "sz")) | with_reducible refine R.max2 ?_ | with_reducible refine R.min2 ?_
  | ((with_reducible refine R.lenStr ?h ?q); (case h => walk_at "szl")) | ((with_reducible refine R.ixS (n := ?n) ?h ?e ?q); (case h => walk_at "szl"); (case e => walk_at "ix"))
  | ((with_reducible refine R.tyl (xs := ?xs) ?h ?q); (case h => walk_at "at")) | with_reducible refine R.itlist ?_ | with_reducible refine R.ittup ?_ | with_reducible refine R.m1 ?_ | with_reducible refine R.m1s ?_ | with_reducible refine R.leS ?_ | with_reducible refine R.itstr ?_ | with_reducible refine R.itstrE ?_ | with_reducible refine R.lc ?_ | with_reducible refine R.lc2 ?_ | with_reducible refine R.ckw ?_ | with_reducible refine R.par ?_ | with_reducible refine R.parE ?_ | with_reducible refine R.itrev ?_ | with_reducible refine R.dsetd ?_ | with_reducible refine R.dnotin_ ?_ | with_reducible refine R.for_ ?_ | ((with_reducible refine R.all_ (bs := ?bs) ?h ?q); (case h => walk_at "at"))
  | with_reducible refine R.rng1 ?_ | ((with_reducible refine R.rngE ?h ?q); (case h => (constructor <;> omega)))
  | ((with_reducible refine R.lenT (xs := ?xs) ?h ?q); (case h => walk_at "sqt")) | ((with_reducible refine R.ixT (xs := ?xs) (v := ?v) ?h ?e ?q); (case h => walk_at "sqt"); (case e => walk_at "ix"))
  | ((refine R.itlE (xs := ?xs) ?h ?q); (case h => walk_at "at")) | ((refine R.ittE (xs := ?xs) ?h ?q); (case h => walk_at "at"))
  | ((refine R.gseq (xs := ?xs) ?h ?e ?q); (case h => walk_at "sqa"); (case e => rfl)) | ((refine R.ixA (xs := ?xs) (v := ?v) ?h ?e ?q); (case h => walk_at "sqa"); (case e => walk_at "ix")) | ((refine R.lenA (xs := ?xs) ?h ?q); (case h => walk_at "sqa"))
  | ((with_reducible refine R.gtup (xs := ?xs) ?h ?e ?q); (case h => walk_at "sqt"); (case e => rfl))
  | with_reducible refine R.din_ ?_ | with_reducible refine R.dput_ ?_
  | with_reducible refine R.dget2_ ?_ | ((with_reducible refine R.aug_ (x := ?x) ?h ?q); case h => rfl) | with_reducible refine R.ipI_ ?_
  | with_reducible refine R.rng2 ?_ | ((with_reducible refine R.rngE2 ?h ?q); (case h => (refine ⟨?_, ?_, ?_, ?_⟩ <;> omega)))
  | with_reducible refine R.brk ?_ | with_reducible refine R.intB ?_ | with_reducible refine R.meth_ ?_ | ((refine KN.methS (rs := ?rs) (ms := ?ms) ?h (fun _ _ _ _ => rfl) ?q); case h => walk_at "sys")
  | with_reducible refine R.sl_ ?_ | with_reducible refine R.np_ ?_ | with_reducible refine R.pt_ ?_ | with_reducible refine R.ptE ?_ | with_reducible refine R.dget_ ?_ | with_reducible refine R.revL_ ?_
  | ((refine R.dgetS (kvs := ?kvs) (v := ?v) ?h ?e ?q); (case h => walk_at "at"); (case e => walk_at "dk"))
  | with_reducible refine R.sfld ?_ | with_reducible refine R.fld_ ?_ | with_reducible refine R.dc ?_
  | with_reducible refine R.dget1_ ?_
  | with_reducible refine R.itseq ?_ | with_reducible refine R.itenum ?_
  | with_reducible refine R.itT ?_ | with_reducible refine R.itF ?_ | with_reducible refine R.itNT ?_ | with_reducible refine R.itNF ?_
  | (with_reducible refine R.tup ?_) | (with_reducible refine R.lst ?_))
local macro_rules | `(tactic| walk_at "rd") => `(tactic| (repeat (first | walk_at "r1" | (dsimp only [Int.reduceToNat, List.set_cons_succ, List.set_cons_zero, List.length_cons, List.length_nil, List.nil_append, List.cons_append, List.append_nil]))))
local macro_rules | `(tactic| walk_at "go") => `(tactic| (rw [R.start_eq]; dsimp only [R.startE, List.map_nil]; walk_at "rd"))
namespace KN
open PySem L2 SX R
/-- the simple words with this value, in order -/
def nmL (rs : List SR) (n : Int) : List Str := (rs.filter fun r => decide (r.v = n)).map (·.w)
theorem nmL_len (rs : List SR) (n : Int) : ((nmL rs n).length : Int) = base0 rs n := by unfold nmL base0; rw [List.length_map]
theorem nmL_snoc (rs : List SR) (r : SR) (n : Int) : nmL (rs ++ [r]) n = nmL rs n ++ (if r.v = n then [r.w] else []) := by
  unfold nmL
  rw [List.filter_append, List.map_append]
  congr 1
  by_cases h : r.v = n
  · rw [List.filter_cons_of_pos (by exact decide_eq_true h), if_pos h]; rfl
  · rw [List.filter_cons_of_neg (by rw [decide_eq_false h]; exact Bool.false_ne_true), if_neg h]; rfl
/-- the splits of a number: the word, the part ahead (0 for nothing), the part behind -/
def splF (ms : List MR) (n : Int) : List (Str × Int × Int) := (ms.filter fun m => okT m n).map fun m => (m.w, (if m.u = true ∧ n / m.v = 1 then 0 else n / m.v), n % m.v)
def spV (s : Str × Int × Int) : List V := [.str s.1, .int s.2.1, .int s.2.2]
theorem splF_len (ms : List MR) (n : Int) : (splF ms n).length ≤ ms.length := by
  unfold splF
  rw [List.length_map]
  exact List.length_filter_le _ _
theorem one0_spl (rs : List SR) (ms : List MR) {m : MR} {n : Int} (h : okT m n = true) : one0 rs ms (if m.u = true ∧ n / m.v = 1 then 0 else n / m.v) * one0 rs ms (n % m.v) = tm (cnt rs ms) m n := by
  have h1 := (okT_iff.mp h).1
  unfold tm one0
  rw [if_pos h]
  by_cases q : m.u = true ∧ n / m.v = 1
  · rw [if_pos q, if_pos q, if_pos rfl]
  · rw [if_neg q, if_neg q, if_neg (by omega)]
theorem spl_sum (rs : List SR) (ms0 : List MR) (n : Int) : ∀ ms : List MR, ((splF ms n).map fun s => one0 rs ms0 s.2.1 * one0 rs ms0 s.2.2).sum = (ms.map fun m => tm (cnt rs ms0) m n).sum
  | [] => rfl
  | m :: ms => by
    have ih := spl_sum rs ms0 n ms
    unfold splF at ih ⊢
    rw [List.filter_cons, List.map_cons, List.sum_cons, ← ih]
    by_cases h : okT m n = true
    · rw [if_pos h, List.map_cons, List.map_cons, List.sum_cons]
      dsimp only
      rw [one0_spl rs ms0 h]
    · rw [if_neg h]
      have : tm (cnt rs ms0) m n = 0 := by unfold tm; rw [if_neg h]
      rw [this, Int.zero_add]
theorem spl_mem {ms : List MR} {n : Int} (hv : ∀ m ∈ ms, 2 ≤ m.v) (hn : 0 ≤ n) {s : Str × Int × Int} (h : s ∈ splF ms n) : 1 ≤ n ∧ 0 ≤ s.2.1 ∧ 2 * s.2.1 ≤ n ∧ 0 ≤ s.2.2 ∧ 2 * s.2.2 ≤ n := by
  unfold splF at h
  obtain ⟨m, hm, rfl⟩ := List.mem_map.mp h
  obtain ⟨h1, h2⟩ := List.mem_filter.mp hm
  have lo := hv m h1
  have o1 := (okT_iff.mp h2).1
  have e := Int.mul_ediv_add_emod n m.v
  have r0 : 0 ≤ n % m.v := Int.emod_nonneg _ (by omega)
  have r1 : n % m.v < m.v := Int.emod_lt_of_pos _ (by omega)
  have q1 : m.v * 1 ≤ m.v * (n / m.v) := Int.mul_le_mul_of_nonneg_left o1 (by omega)
  have q2 : 2 * (n / m.v) ≤ m.v * (n / m.v) := Int.mul_le_mul_of_nonneg_right lo (by omega)
  dsimp only
  refine ⟨by omega, ?_, ?_, r0, by omega⟩
  · split <;> omega
  · split <;> omega
end KN
end
section
set_option Elab.async false
set_option linter.all false
set_option maxRecDepth 100000
set_option maxHeartbeats 4000000
set_option pp.maxSteps 1500
set_option pp.deepTerms false
local macro_rules | `(tactic| walk_at "ne") => `(tactic| first
  | assumption | (apply Ne.symm; assumption)
  | exact R.ne_new (by assumption) | exact (R.ne_new (by assumption)).symm
  | exact L2.ne_of_none (by assumption) (by assumption) | exact (L2.ne_of_none (by assumption) (by assumption)).symm
  | exact L2.ne_of_none (by assumption) (R.free_new (by assumption)) | exact (L2.ne_of_none (by assumption) (R.free_new (by assumption))).symm)
local macro_rules | `(tactic| walk_at "at") => `(tactic| first
  | assumption | exact L2.upd_same
  | (refine R.sb (H := ?H) (p := ?p) ?e ?n ?h; (case e => assumption); (case n => walk_at "ne"); (case h => walk_at "at"))
  | (refine R.sm (H := ?H) ?e ?h; (case e => assumption); (case h => walk_at "at"))
  | (refine Eq.trans (L2.upd_ne ?_) ?_ <;> first | walk_at "ne" | walk_at "at"))
local macro_rules | `(tactic| walk_at "sqt") => `(tactic| first | assumption | (refine L2.SqT.of ?_; walk_at "at"))
local macro_rules | `(tactic| walk_at "ty") => `(tactic| first | exact R.tyN | exact R.tyB | exact R.tyI | exact R.tyS | (refine R.tyT (xs := ?xs) ?h; case h => walk_at "at") | (refine R.tyL (xs := ?xs) ?h; case h => walk_at "at"))
local macro_rules | `(tactic| walk_at "kit") => `(tactic| first | exact R.kit_NoneType_tuple | exact R.kit_NoneType_list | exact R.kit_NoneType_bool | exact R.kit_NoneType_str | exact R.kit_NoneType_int | exact R.kit_bool_tuple | exact R.kit_bool_list | exact R.kit_bool_bool | exact R.kit_bool_str | exact R.kit_bool_int | exact R.kit_int_tuple | exact R.kit_int_list | exact R.kit_int_bool | exact R.kit_int_str | exact R.kit_int_int | exact R.kit_str_tuple | exact R.kit_str_list | exact R.kit_str_bool | exact R.kit_str_str | exact R.kit_str_int | exact R.kit_tuple_tuple | exact R.kit_tuple_list | exact R.kit_tuple_bool | exact R.kit_tuple_str | exact R.kit_tuple_int | exact R.kit_list_tuple | exact R.kit_list_list | exact R.kit_list_bool | exact R.kit_list_str | exact R.kit_list_int)
local macro_rules | `(tactic| walk_at "sz") => `(tactic| first | assumption | (refine Nat.le_trans ?_ (show 1000 ≤ PySem.sizeLine by decide); omega) | decide)
local macro_rules | `(tactic| walk_at "szl") => `(tactic| first | assumption | exact Nat.le_of_lt (L2.small1000 (by omega)) | decide | decide +kernel)
local macro_rules | `(tactic| walk_at "sys") => `(tactic| first | assumption | exact KN.SysAt.same (by assumption) (by assumption))
local macro_rules | `(tactic| walk_at "dk") => `(tactic| first | exact R.rowsS _ _ | exact R.rowsM _ _)
local macro_rules | `(tactic| walk_at "sqa") => `(tactic| first | assumption | exact R.SeqA.same (by assumption) (by assumption) | exact R.SeqA.new (by assumption) (by assumption) | (exact Or.inl (by walk_at "at")) | (exact Or.inr (by walk_at "at")))
local macro_rules | `(tactic| walk_at "ix") => `(tactic| first | rfl | (exact L2.atI_nat (by assumption)) | assumption)
local macro_rules | `(tactic| walk_at "cond") => `(tactic| first
  | exact Or.inl (by decide) | exact Or.inr (by decide) | exact Or.inl ⟨by omega, by omega⟩ | exact Or.inr ⟨by omega, by omega⟩
  | (constructor <;> omega) | (show _ ≠ _; omega) | decide | omega)
local macro_rules | `(tactic| walk_at "r1") => `(tactic| first
  | with_reducible refine R.seq ?_ | with_reducible refine R.asg ?_ | with_reducible refine R.ifs ?_ | with_reducible refine R.ret ?_ | with_reducible refine R.retN ?_ | with_reducible refine R.drop ?_ | with_reducible refine R.next ?_
  | with_reducible refine R.op ?_ | ((with_reducible refine R.var (v := ?v) ?h ?q); case h => rfl) | with_reducible refine R.c ?_ | with_reducible refine R.tst ?_ | with_reducible refine R.tb_ ?_ | with_reducible refine R.ex ?_
  | with_reducible refine R.i0 ?_ | with_reducible refine R.eqI ?_ | with_reducible refine R.neI ?_ | ((with_reducible refine R.ic ?_ ?_); · walk_at "cond") | with_reducible refine R.u0 ?_ | with_reducible refine R.un ?_
  | ((with_reducible refine R.eq ?_ ?_); · rfl) | ((with_reducible refine R.ne ?_ ?_); · rfl)
  | with_reducible refine R.and_ ?_ | with_reducible refine R.or_ ?_ | with_reducible refine R.not_ ?_ | with_reducible refine R.ife ?_ | with_reducible refine R.chain ?_
  | with_reducible refine R.cons ?_ | with_reducible refine R.nil ?_ | with_reducible refine R.call ?_ | with_reducible refine R.cb ?_ | with_reducible refine R.bm ?_
  | with_reducible refine R.gname ?_ | with_reducible refine R.gsub ?_ | with_reducible refine R.gnil ?_ | with_reducible refine R.gcons ?_ | with_reducible refine R.yes ?_
  | with_reducible refine R.int1 ?_ | ((with_reducible refine R.lenL (xs := ?xs) ?h ?q); case h => walk_at "at")
  | ((with_reducible refine R.ixL (xs := ?xs) (v := ?v) ?h ?e ?q); (case h => walk_at "at"); (case e => walk_at "ix"))
  | ((with_reducible refine R.setL (xs := ?xs) (n := ?n) ?h ?e ?q); (case h => walk_at "at"); (case e => rfl))
  | ((with_reducible refine R.append (xs := ?xs) ?h ?e ?q); (case h => walk_at "at"); (case e => walk_at "cond"))
  | with_reducible refine R.is_ ?_ | with_reducible refine R.isnot ?_ | with_reducible refine R.andV ?_ | with_reducible refine R.orV ?_ | with_reducible refine R.notV ?_
  | ((with_reducible refine R.isi (s := ?s) (b := ?b) ?ty ?h ?q); (case ty => walk_at "ty"); (case h => walk_at "kit"))
  | ((with_reducible refine R.addS ?h ?q); (case h => walk_at "sz")) | with_reducible refine R.max2 ?_ | with_reducible refine R.min2 ?_
  | ((with_reducible refine R.lenStr ?h ?q); (case h => walk_at "szl")) | ((with_reducible refine R.ixS (n := ?n) ?h ?e ?q); (case h => walk_at "szl"); (case e => walk_at "ix"))
  | ((with_reducible refine R.tyl (xs := ?xs) ?h ?q); (case h => walk_at "at")) | with_reducible refine R.itlist ?_ | with_reducible refine R.ittup ?_ | with_reducible refine R.m1 ?_ | with_reducible refine R.m1s ?_ | with_reducible refine R.leS ?_ | with_reducible refine R.itstr ?_ | with_reducible refine R.itstrE ?_ | with_reducible refine R.lc ?_ | with_reducible refine R.lc2 ?_ | with_reducible refine R.ckw ?_ | with_reducible refine R.par ?_ | with_reducible refine R.parE ?_ | with_reducible refine R.itrev ?_ | with_reducible refine R.dsetd ?_ | with_reducible refine R.dnotin_ ?_ | with_reducible refine R.for_ ?_ | ((with_reducible refine R.all_ (bs := ?bs) ?h ?q); (case h => walk_at "at"))
  | with_reducible refine R.rng1 ?_ | ((with_reducible refine R.rngE ?h ?q); (case h => (constructor <;> omega)))
  | ((with_reducible refine R.lenT (xs := ?xs) ?h ?q); (case h => walk_at "sqt")) | ((with_reducible refine R.ixT (xs := ?xs) (v := ?v) ?h ?e ?q); (case h => walk_at "sqt"); (case e => walk_at "ix"))
  | ((refine R.itlE (xs := ?xs) ?h ?q); (case h => walk_at "at")) | ((refine R.ittE (xs := ?xs) ?h ?q); (case h => walk_at "at"))
  | ((refine R.gseq (xs := ?xs) ?h ?e ?q); (case h => walk_at "sqa"); (case e => rfl)) | ((refine R.ixA (xs := ?xs) (v := ?v) ?h ?e ?q); (case h => walk_at "sqa"); (case e => walk_at "ix")) | ((refine R.lenA (xs := ?xs) ?h ?q); (case h => walk_at "sqa"))
  | ((with_reducible refine R.gtup (xs := ?xs) ?h ?e ?q); (case h => walk_at "sqt"); (case e => rfl))
  | with_reducible refine R.din_ ?_ | with_reducible refine R.dput_ ?_
  | with_reducible refine R.dget2_ ?_ | ((with_reducible refine R.aug_ (x := ?x) ?h ?q); case h => rfl) | with_reducible refine R.ipI_ ?_
  | with_reducible refine R.rng2 ?_ | ((with_reducible refine R.rngE2 ?h ?q); (case h => (refine ⟨?_, ?_, ?_, ?_⟩ <;> omega)))
  | with_reducible refine R.brk ?_ | with_reducible refine R.intB ?_ | with_reducible refine R.meth_ ?_ | ((refine KN.methS (rs := ?rs) (ms := ?ms) ?h (fun _ _ _ _ => rfl) ?q); case h => walk_at "sys")
  | with_reducible refine R.sl_ ?_ | with_reducible refine R.np_ ?_ | with_reducible refine R.pt_ ?_ | with_reducible refine R.ptE ?_ | with_reducible refine R.dget_ ?_ | with_reducible refine R.revL_ ?_
  | ((refine R.dgetS (kvs := ?kvs) (v := ?v) ?h ?e ?q); (case h => walk_at "at"); (case e => walk_at "dk"))
  | with_reducible refine R.sfld ?_ | with_reducible refine R.fld_ ?_ | with_reducible refine R.dc ?_
  | with_reducible refine R.dget1_ ?_
  | with_reducible refine R.itseq ?_ | with_reducible refine R.itenum ?_
  | with_reducible refine R.itT ?_ | with_reducible refine R.itF ?_ | with_reducible refine R.itNT ?_ | with_reducible refine R.itNF ?_
  | (with_reducible refine R.tup ?_) | (with_reducible refine R.lst ?_))
local macro_rules | `(tactic| walk_at "rd") => `(tactic| (repeat (first | walk_at "r1" | (dsimp only [Int.reduceToNat, List.set_cons_succ, List.set_cons_zero, List.length_cons, List.length_nil, List.nil_append, List.cons_append, List.append_nil]))))
local macro_rules | `(tactic| walk_at "go") => `(tactic| (rw [R.start_eq]; dsimp only [R.startE, List.map_nil]; walk_at "rd"))
namespace KN
open PySem L2 SX R
/-- the phrases of both parts with a word between them, in order -/
def prodL (A : List (List Str)) (w : Str) (B : List (List Str)) : List (List Str) := A.flatMap fun a => B.map fun b => a ++ w :: b
def phx (rs : List SR) (ms : List MR) : Nat → Int → List (List Str)
  | 0, _ => []
  | f + 1, n => if n = 0 then [[]] else (nmL rs n).map (fun w => [w]) ++ (splF ms n).flatMap fun s => prodL (phx rs ms f s.2.1) s.1 (phx rs ms f s.2.2)
/-- the phrases of the derivations of a part, in order -/
def ph (rs : List SR) (ms : List MR) (n : Int) : List (List Str) := phx rs ms (n.toNat + 1) n
theorem fm_congr {α β : Type} {f g : α → List β} : ∀ {l : List α}, (∀ x ∈ l, f x = g x) → l.flatMap f = l.flatMap g
  | [], _ => rfl
  | a :: l, h => by rw [List.flatMap_cons, List.flatMap_cons, h a List.mem_cons_self, fm_congr fun x hx => h x (List.mem_cons_of_mem _ hx)]
theorem prodL_len (A : List (List Str)) (w : Str) (B : List (List Str)) : (prodL A w B).length = A.length * B.length := by
  unfold prodL
  induction A with
  | nil => simp
  | cons a A ih => rw [List.flatMap_cons, List.length_append, ih, List.length_map, List.length_cons, Nat.succ_mul, Nat.add_comm]
theorem prodL_get (A : List (List Str)) (w : Str) (B : List (List Str)) : ∀ i, i < A.length * B.length → ∃ a b, A[i / B.length]? = some a ∧ B[i % B.length]? = some b ∧ (prodL A w B)[i]? = some (a ++ w :: b) := by
  unfold prodL
  induction A with
  | nil => intro i h; simp at h
  | cons a A ih =>
    intro i h
    rw [List.length_cons, Nat.succ_mul] at h
    rw [List.flatMap_cons]
    by_cases q : i < B.length
    · refine ⟨a, B[i], ?_, ?_, ?_⟩
      · rw [Nat.div_eq_of_lt q]; rfl
      · rw [Nat.mod_eq_of_lt q, List.getElem?_eq_getElem q]
      · rw [List.getElem?_append_left (by rw [List.length_map]; exact q), List.getElem?_map, List.getElem?_eq_getElem q]; rfl
    · have bp : 0 < B.length := by
        rcases Nat.eq_zero_or_pos B.length with z | z
        · rw [z] at h; simp at h
        · exact z
      obtain ⟨a', b, h1, h2, h3⟩ := ih (i - B.length) (by omega)
      refine ⟨a', b, ?_, ?_, ?_⟩
      · have e : i / B.length = (i - B.length) / B.length + 1 := by
          conv => lhs; rw [show i = (i - B.length) + B.length by omega]
          exact Nat.add_div_right _ bp
        rw [e, List.getElem?_cons_succ]
        exact h1
      · have e : i % B.length = (i - B.length) % B.length := by
          conv => lhs; rw [show i = (i - B.length) + B.length by omega]
          exact Nat.add_mod_right _ _
        rw [e]
        exact h2
      · rw [List.getElem?_append_right (by rw [List.length_map]; omega), List.length_map]
        exact h3
section
variable {rs : List SR} {ms : List MR} (hv : ∀ m ∈ ms, 2 ≤ m.v)
include hv
theorem phx_stable : ∀ (f : Nat) (n : Int), 0 ≤ n → n.toNat < f → phx rs ms f n = ph rs ms n := by
  have key : ∀ (k f g : Nat) (n : Int), 0 ≤ n → n.toNat ≤ k → n.toNat < f → n.toNat < g → phx rs ms f n = phx rs ms g n := by
    intro k
    induction k with
    | zero =>
      intro f g n h0 hk hf hg
      have : n = 0 := by omega
      subst this
      obtain ⟨f', rfl⟩ := Nat.exists_eq_succ_of_ne_zero (show f ≠ 0 by omega)
      obtain ⟨g', rfl⟩ := Nat.exists_eq_succ_of_ne_zero (show g ≠ 0 by omega)
      rfl
    | succ k ih =>
      intro f g n h0 hk hf hg
      obtain ⟨f', rfl⟩ := Nat.exists_eq_succ_of_ne_zero (show f ≠ 0 by omega)
      obtain ⟨g', rfl⟩ := Nat.exists_eq_succ_of_ne_zero (show g ≠ 0 by omega)
      unfold phx
      by_cases z : n = 0
      · rw [if_pos z, if_pos z]
      · rw [if_neg z, if_neg z]
        congr 1
        refine fm_congr fun s hs => ?_
        obtain ⟨q1, q2, q3, q4, q5⟩ := spl_mem hv h0 hs
        rw [ih f' g' s.2.1 q2 (by omega) (by omega) (by omega), ih f' g' s.2.2 q4 (by omega) (by omega) (by omega)]
  exact fun f n h0 hf => key n.toNat f _ n h0 (Nat.le_refl _) hf (Nat.lt_succ_self _)
omit hv in
theorem ph_zero : ph rs ms 0 = [[]] := by unfold ph phx; rw [if_pos rfl]
theorem ph_eq {n : Int} (h : 1 ≤ n) : ph rs ms n = (nmL rs n).map (fun w => [w]) ++ (splF ms n).flatMap fun s => prodL (ph rs ms s.2.1) s.1 (ph rs ms s.2.2) := by
  conv => lhs; unfold ph phx
  rw [if_neg (by omega)]
  congr 1
  refine fm_congr fun s hs => ?_
  obtain ⟨q1, q2, q3, q4, q5⟩ := spl_mem hv (show 0 ≤ n by omega) hs
  rw [phx_stable hv _ _ q2 (by omega), phx_stable hv _ _ q4 (by omega)]
theorem ph_len : ∀ (k : Nat) (n : Int), 0 ≤ n → n.toNat ≤ k → ((ph rs ms n).length : Int) = one0 rs ms n
  | k, n, h0, hk => by
    by_cases z : n = 0
    · subst z
      rw [ph_zero]
      rfl
    · have h1 : 1 ≤ n := by omega
      cases k with
      | zero => omega
      | succ k =>
        have eo : one0 rs ms n = cnt rs ms n := by unfold one0; rw [if_neg z]
        rw [eo, cnt_eq hv h0, ← spl_sum rs ms n ms, ph_eq hv h1, List.length_append, List.length_map, Int.natCast_add, nmL_len]
        congr 1
        have hm : ∀ s ∈ splF ms n, _ := fun s hs => spl_mem hv h0 hs
        generalize splF ms n = L at hm
        induction L with
        | nil => rfl
        | cons s L ih =>
          obtain ⟨q1, q2, q3, q4, q5⟩ := hm s List.mem_cons_self
          rw [List.flatMap_cons, List.length_append, List.map_cons, List.sum_cons, Int.natCast_add, ih fun t ht => hm t (List.mem_cons_of_mem _ ht), prodL_len, Int.natCast_mul, ph_len k s.2.1 q2 (by omega), ph_len k s.2.2 q4 (by omega)]
theorem ph_one0 {n : Int} (h : 0 ≤ n) : ((ph rs ms n).length : Int) = one0 rs ms n := ph_len hv n.toNat n h (Nat.le_refl _)
theorem ph_size : ∀ (k : Nat) (n : Int), 0 ≤ n → n.toNat ≤ k → ∀ p ∈ ph rs ms n, (p.length : Int) ≤ n
  | k, n, h0, hk, p, hp => by
    by_cases z : n = 0
    · subst z
      rw [ph_zero, List.mem_singleton] at hp
      subst hp
      exact Int.le_refl _
    · have h1 : 1 ≤ n := by omega
      cases k with
      | zero => omega
      | succ k =>
        rw [ph_eq hv h1] at hp
        rcases List.mem_append.mp hp with h | h
        · obtain ⟨w, _, rfl⟩ := List.mem_map.mp h
          exact h1
        · obtain ⟨s, hs, h⟩ := List.mem_flatMap.mp h
          unfold prodL at h
          obtain ⟨a, ha, h⟩ := List.mem_flatMap.mp h
          obtain ⟨b, hb, rfl⟩ := List.mem_map.mp h
          have hlt : s.2.1 + s.2.2 + 1 ≤ n := by
            have hs' := hs
            unfold splF at hs'
            obtain ⟨m, hm, rfl⟩ := List.mem_map.mp hs'
            obtain ⟨m1, m2⟩ := List.mem_filter.mp hm
            have := okT_lt (hv m m1) h0 m2
            dsimp only
            split <;> omega
          obtain ⟨q1, q2, q3, q4, q5⟩ := spl_mem hv h0 hs
          have ia := ph_size k s.2.1 q2 (by omega) a ha
          have ib := ph_size k s.2.2 q4 (by omega) b hb
          rw [List.length_append, List.length_cons]
          omega
theorem ph_short {n : Int} (h : 0 ≤ n) {p : List Str} (hp : p ∈ ph rs ms n) : (p.length : Int) ≤ n := ph_size hv n.toNat n h (Nat.le_refl _) p hp
end
end KN
end
section
set_option Elab.async false
set_option linter.all false
set_option maxRecDepth 100000
set_option maxHeartbeats 4000000
set_option pp.maxSteps 1500
set_option pp.deepTerms false
local macro_rules | `(tactic| walk_at "ne") => `(tactic| first
  | assumption | (apply Ne.symm; assumption)
  | exact R.ne_new (by assumption) | exact (R.ne_new (by assumption)).symm
  | exact L2.ne_of_none (by assumption) (by assumption) | exact (L2.ne_of_none (by assumption) (by assumption)).symm
  | exact L2.ne_of_none (by assumption) (R.free_new (by assumption)) | exact (L2.ne_of_none (by assumption) (R.free_new (by assumption))).symm)
local macro_rules | `(tactic| walk_at "at") => `(tactic| first
  | assumption | exact L2.upd_same
  | (refine R.sb (H := ?H) (p := ?p) ?e ?n ?h; (case e => assumption); (case n => walk_at "ne"); (case h => walk_at "at"))
  | (refine R.sm (H := ?H) ?e ?h; (case e => assumption); (case h => walk_at "at"))
  | (refine Eq.trans (L2.upd_ne ?_) ?_ <;> first | walk_at "ne" | walk_at "at"))
local macro_rules | `(tactic| walk_at "sqt") => `(tactic| first | assumption | (refine L2.SqT.of ?_; walk_at "at"))
local macro_rules | `(tactic| walk_at "ty") => `(tactic| first | exact R.tyN | exact R.tyB | exact R.tyI | exact R.tyS | (refine R.tyT (xs := ?xs) ?h; case h => walk_at "at") | (refine R.tyL (xs := ?xs) ?h; case h => walk_at "at"))
local macro_rules | `(tactic| walk_at "kit") => `(tactic| first | exact R.kit_NoneType_tuple | exact R.kit_NoneType_list | exact R.kit_NoneType_bool | exact R.kit_NoneType_str | exact R.kit_NoneType_int | exact R.kit_bool_tuple | exact R.kit_bool_list | exact R.kit_bool_bool | exact R.kit_bool_str | exact R.kit_bool_int | exact R.kit_int_tuple | exact R.kit_int_list | exact R.kit_int_bool | exact R.kit_int_str | exact R.kit_int_int | exact R.kit_str_tuple | exact R.kit_str_list | exact R.kit_str_bool | exact R.kit_str_str | exact R.kit_str_int | exact R.kit_tuple_tuple | exact R.kit_tuple_list | exact R.kit_tuple_bool | exact R.kit_tuple_str | exact R.kit_tuple_int | exact R.kit_list_tuple | exact R.kit_list_list | exact R.kit_list_bool | exact R.kit_list_str | exact R.kit_list_int)
local macro_rules | `(tactic| walk_at "sz") => `(tactic| first | assumption | (refine Nat.le_trans ?_ (show 1000 ≤ PySem.sizeLine by decide); omega) | decide)
local macro_rules | `(tactic| walk_at "szl") => `(tactic| first | assumption | exact Nat.le_of_lt (L2.small1000 (by omega)) | decide | decide +kernel)
local macro_rules | `(tactic| walk_at "sys") => `(tactic| first | assumption | exact KN.SysAt.same (by assumption) (by assumption))
local macro_rules | `(tactic| walk_at "dk") => `(tactic| first | exact R.rowsS _ _ | exact R.rowsM _ _)
local macro_rules | `(tactic| walk_at "sqa") => `(tactic| first | assumption | exact R.SeqA.same (by assumption) (by assumption) | exact R.SeqA.new (by assumption) (by assumption) | (exact Or.inl (by walk_at "at")) | (exact Or.inr (by walk_at "at")))
local macro_rules | `(tactic| walk_at "ix") => `(tactic| first | rfl | (exact L2.atI_nat (by assumption)) | assumption)
local macro_rules | `(tactic| walk_at "cond") => `(tactic| first
  | exact Or.inl (by decide) | exact Or.inr (by decide) | exact Or.inl ⟨by omega, by omega⟩ | exact Or.inr ⟨by omega, by omega⟩
  | (constructor <;> omega) | (show _ ≠ _; omega) | decide | omega)
local macro_rules | `(tactic| walk_at "r1") => `(tactic| first
  | with_reducible refine R.seq ?_ | with_reducible refine R.asg ?_ | with_reducible refine R.ifs ?_ | with_reducible refine R.ret ?_ | with_reducible refine R.retN ?_ | with_reducible refine R.drop ?_ | with_reducible refine R.next ?_
  | with_reducible refine R.op ?_ | ((with_reducible refine R.var (v := ?v) ?h ?q); case h => rfl) | with_reducible refine R.c ?_ | with_reducible refine R.tst ?_ | with_reducible refine R.tb_ ?_ | with_reducible refine R.ex ?_
  | with_reducible refine R.i0 ?_ | with_reducible refine R.eqI ?_ | with_reducible refine R.neI ?_ | ((with_reducible refine R.ic ?_ ?_); · walk_at "cond") | with_reducible refine R.u0 ?_ | with_reducible refine R.un ?_
  | ((with_reducible refine R.eq ?_ ?_); · rfl) | ((with_reducible refine R.ne ?_ ?_); · rfl)
  | with_reducible refine R.and_ ?_ | with_reducible refine R.or_ ?_ | with_reducible refine R.not_ ?_ | with_reducible refine R.ife ?_ | with_reducible refine R.chain ?_
  | with_reducible refine R.cons ?_ | with_reducible refine R.nil ?_ | with_reducible refine R.call ?_ | with_reducible refine R.cb ?_ | with_reducible refine R.bm ?_
  | with_reducible refine R.gname ?_ | with_reducible refine R.gsub ?_ | with_reducible refine R.gnil ?_ | with_reducible refine R.gcons ?_ | with_reducible refine R.yes ?_
  | with_reducible refine R.int1 ?_ | ((with_reducible refine R.lenL (xs := ?xs) ?h ?q); case h => walk_at "at")
  | ((with_reducible refine R.ixL (xs := ?xs) (v := ?v) ?h ?e ?q); (case h => walk_at "at"); (case e => walk_at "ix"))
  | ((with_reducible refine R.setL (xs := ?xs) (n := ?n) ?h ?e ?q); (case h => walk_at "at"); (case e => rfl))
  | ((with_reducible refine R.append (xs := ?xs) ?h ?e ?q); (case h => walk_at "at"); (case e => walk_at "cond"))
  | with_reducible refine R.is_ ?_ | with_reducible refine R.isnot ?_ | with_reducible refine R.andV ?_ | with_reducible refine R.orV ?_ | with_reducible refine R.notV ?_
  | ((with_reducible refine R.isi (s := ?s) (b := ?b) ?ty ?h ?q); (case ty => walk_at "ty"); (case h => walk_at "kit"))
  | ((with_reducible refine R.addS ?h ?q); (case h => walk_at "sz")) | with_reducible refine R.max2 ?_ | with_reducible refine R.min2 ?_
  | ((with_reducible refine R.lenStr ?h ?q); (case h => walk_at "szl")) | ((with_reducible refine R.ixS (n := ?n) ?h ?e ?q); (case h => walk_at "szl"); (case e => walk_at "ix"))
  | ((with_reducible refine R.tyl (xs := ?xs) ?h ?q); (case h => walk_at "at")) | with_reducible refine R.itlist ?_ | with_reducible refine R.ittup ?_ | with_reducible refine R.m1 ?_ | with_reducible refine R.m1s ?_ | with_reducible refine R.leS ?_ | with_reducible refine R.itstr ?_ | with_reducible refine R.itstrE ?_ | with_reducible refine R.lc ?_ | with_reducible refine R.lc2 ?_ | with_reducible refine R.ckw ?_ | with_reducible refine R.par ?_ | with_reducible refine R.parE ?_ | with_reducible refine R.itrev ?_ | with_reducible refine R.dsetd ?_ | with_reducible refine R.dnotin_ ?_ | with_reducible refine R.for_ ?_ | ((with_reducible refine R.all_ (bs := ?bs) ?h ?q); (case h => walk_at "at"))
  | with_reducible refine R.rng1 ?_ | ((with_reducible refine R.rngE ?h ?q); (case h => (constructor <;> omega)))
  | ((with_reducible refine R.lenT (xs := ?xs) ?h ?q); (case h => walk_at "sqt")) | ((with_reducible refine R.ixT (xs := ?xs) (v := ?v) ?h ?e ?q); (case h => walk_at "sqt"); (case e => walk_at "ix"))
  | ((refine R.itlE (xs := ?xs) ?h ?q); (case h => walk_at "at")) | ((refine R.ittE (xs := ?xs) ?h ?q); (case h => walk_at "at"))
  | ((refine R.gseq (xs := ?xs) ?h ?e ?q); (case h => walk_at "sqa"); (case e => rfl)) | ((refine R.ixA (xs := ?xs) (v := ?v) ?h ?e ?q); (case h => walk_at "sqa"); (case e => walk_at "ix")) | ((refine R.lenA (xs := ?xs) ?h ?q); (case h => walk_at "sqa"))
  | ((with_reducible refine R.gtup (xs := ?xs) ?h ?e ?q); (case h => walk_at "sqt"); (case e => rfl))
  | with_reducible refine R.din_ ?_ | with_reducible refine R.dput_ ?_
  | with_reducible refine R.dget2_ ?_ | ((with_reducible refine R.aug_ (x := ?x) ?h ?q); case h => rfl) | with_reducible refine R.ipI_ ?_
  | with_reducible refine R.rng2 ?_ | ((with_reducible refine R.rngE2 ?h ?q); (case h => (refine ⟨?_, ?_, ?_, ?_⟩ <;> omega)))
  | with_reducible refine R.brk ?_ | with_reducible refine R.intB ?_ | with_reducible refine R.meth_ ?_ | ((refine KN.methS (rs := ?rs) (ms := ?ms) ?h (fun _ _ _ _ => rfl) ?q); case h => walk_at "sys")
  | with_reducible refine R.sl_ ?_ | with_reducible refine R.np_ ?_ | with_reducible refine R.pt_ ?_ | with_reducible refine R.ptE ?_ | with_reducible refine R.dget_ ?_ | with_reducible refine R.revL_ ?_
  | ((refine R.dgetS (kvs := ?kvs) (v := ?v) ?h ?e ?q); (case h => walk_at "at"); (case e => walk_at "dk"))
  | with_reducible refine R.sfld ?_ | with_reducible refine R.fld_ ?_ | with_reducible refine R.dc ?_
  | with_reducible refine R.dget1_ ?_
  | with_reducible refine R.itseq ?_ | with_reducible refine R.itenum ?_
  | with_reducible refine R.itT ?_ | with_reducible refine R.itF ?_ | with_reducible refine R.itNT ?_ | with_reducible refine R.itNF ?_
  | (with_reducible refine R.tup ?_) | (with_reducible refine R.lst ?_))
local macro_rules | `(tactic| walk_at "rd") => `(tactic| (repeat (first | walk_at "r1" | (dsimp only [Int.reduceToNat, List.set_cons_succ, List.set_cons_zero, List.length_cons, List.length_nil, List.nil_append, List.cons_append, List.append_nil]))))
local macro_rules | `(tactic| walk_at "go") => `(tactic| (rw [R.start_eq]; dsimp only [R.startE, List.map_nil]; walk_at "rd"))
namespace KN
open PySem L2 SX R
/-! how many numbers are said, and how many words with them -/
def oV : Option Nat → V
  | none => .non
  | some i => .int (i : Nat)
def ownW (cs : List Str) (w : Str) : Nat := if w ∈ cs then 1 else 0
def cw (cs : List Str) (p : List Str) : Nat := (p.map (ownW cs)).sum
theorem cw_app (cs : List Str) (a : List Str) (w : Str) (b : List Str) : cw cs (a ++ w :: b) = cw cs a + ownW cs w + cw cs b := by
  unfold cw
  rw [List.map_append, List.sum_append, List.map_cons, List.sum_cons]
  omega
theorem cw_le (cs : List Str) : ∀ p : List Str, cw cs p ≤ p.length
  | [] => Nat.le_refl _
  | w :: p => by
    have := cw_le cs p
    unfold cw at this ⊢
    rw [List.map_cons, List.sum_cons, List.length_cons]
    have : ownW cs w ≤ 1 := by unfold ownW; split <;> decide
    omega
/-- what is counted of the first derivation of a number -/
def Wn (rs : List SR) (ms : List MR) (cs : List Str) (n : Int) : Option Nat := (ph rs ms n).head?.map (cw cs)
def fwW (rs : List SR) (ms : List MR) (cs : List Str) : List (Str × Int × Int) → Option Nat
  | [] => none
  | s :: L => match Wn rs ms cs s.2.1, Wn rs ms cs s.2.2 with
    | some a, some b => some (a + ownW cs s.1 + b)
    | _, _ => fwW rs ms cs L
theorem Wn_zero (rs : List SR) (ms : List MR) (cs : List Str) : Wn rs ms cs 0 = some 0 := by unfold Wn; rw [ph_zero]; rfl
theorem prodL_hd (A : List (List Str)) (w : Str) (B : List (List Str)) : (prodL A w B).head? = match A.head?, B.head? with | some a, some b => some (a ++ w :: b) | _, _ => none := by
  cases A with
  | nil => rfl
  | cons a A =>
    unfold prodL
    rw [List.flatMap_cons]
    cases B with
    | nil =>
      show (([] : List (List Str)) ++ A.flatMap fun a => []).head? = none
      induction A with
      | nil => rfl
      | cons c A ih => rw [List.flatMap_cons]; exact ih
    | cons b B => rfl
theorem Wn_eq {rs : List SR} {ms : List MR} (hv : ∀ m ∈ ms, 2 ≤ m.v) (cs : List Str) {n : Int} (h : 1 ≤ n) : Wn rs ms cs n = match (nmL rs n).head? with | some w => some (ownW cs w) | none => fwW rs ms cs (splF ms n) := by
  unfold Wn
  rw [ph_eq hv h]
  cases nmL rs n with
  | cons w N =>
    show some (cw cs [w]) = some (ownW cs w)
    unfold cw
    rw [List.map_cons, List.map_nil, List.sum_cons, List.sum_nil, Nat.add_zero]
  | nil =>
    rw [List.map_nil, List.nil_append]
    show _ = fwW rs ms cs (splF ms n)
    induction splF ms n with
    | nil => rfl
    | cons s L ih =>
      rw [List.flatMap_cons, List.head?_append, prodL_hd]
      show _ = match Wn rs ms cs s.2.1, Wn rs ms cs s.2.2 with | some a, some b => some (a + ownW cs s.1 + b) | _, _ => fwW rs ms cs L
      unfold Wn
      cases (ph rs ms s.2.1).head? with
      | none => exact ih
      | some a =>
        cases (ph rs ms s.2.2).head? with
        | none => exact ih
        | some b =>
          show some (cw cs (a ++ s.1 :: b)) = some (cw cs a + ownW cs s.1 + cw cs b)
          rw [cw_app]
theorem Wn_le {rs : List SR} {ms : List MR} (hv : ∀ m ∈ ms, 2 ≤ m.v) {cs : List Str} {n : Int} (h0 : 0 ≤ n) {a : Nat} (h : Wn rs ms cs n = some a) : (a : Int) ≤ n := by
  unfold Wn at h
  cases e : (ph rs ms n).head? with
  | none => rw [e] at h; cases h
  | some p =>
    rw [e] at h
    cases h
    have := ph_short hv h0 (List.mem_of_head? e)
    have := cw_le cs p
    show ((cw cs p : Nat) : Int) ≤ n
    omega
/-- sums from 1 on -/
def sA (f : Nat → Option Nat) : Nat → Nat
  | 0 => 0
  | n + 1 => sA f n + (if (f (n + 1)).isSome = true then 1 else 0)
def sT (f : Nat → Option Nat) : Nat → Nat
  | 0 => 0
  | n + 1 => sT f n + (f (n + 1)).getD 0
theorem sA_le (f : Nat → Option Nat) : ∀ n, sA f n ≤ n
  | 0 => Nat.le_refl _
  | n + 1 => by
    have := sA_le f n
    show sA f n + (if (f (n + 1)).isSome = true then 1 else 0) ≤ n + 1
    split <;> omega
theorem sT_le {f : Nat → Option Nat} (h : ∀ n a, f n = some a → a ≤ n) : ∀ n, sT f n ≤ n * n
  | 0 => Nat.le_refl _
  | n + 1 => by
    have := sT_le h n
    show sT f n + (f (n + 1)).getD 0 ≤ (n + 1) * (n + 1)
    have e : (n + 1) * (n + 1) = n * n + 2 * n + 1 := by rw [Nat.succ_mul, Nat.mul_succ]; omega
    cases q : f (n + 1) with
    | none => show sT f n + 0 ≤ _; omega
    | some a =>
      have := h _ a q
      show sT f n + a ≤ _
      omega
theorem sA_mono (f : Nat → Option Nat) : ∀ {n m : Nat}, n ≤ m → sA f n ≤ sA f m
  | n, 0, h => by have : n = 0 := by omega
                  rw [this]; exact Nat.le_refl _
  | n, m + 1, h => by
    by_cases e : n = m + 1
    · rw [e]; exact Nat.le_refl _
    · have := sA_mono f (n := n) (m := m) (by omega)
      show _ ≤ sA f m + _
      omega
theorem sT_mono (f : Nat → Option Nat) : ∀ {n m : Nat}, n ≤ m → sT f n ≤ sT f m
  | n, 0, h => by have : n = 0 := by omega
                  rw [this]; exact Nat.le_refl _
  | n, m + 1, h => by
    by_cases e : n = m + 1
    · rw [e]; exact Nat.le_refl _
    · have := sT_mono f (n := n) (m := m) (by omega)
      show _ ≤ sT f m + _
      omega
/-- where two agree behind b -/
theorem s_tail {f g : Nat → Option Nat} {b : Nat} : ∀ {n : Nat}, b ≤ n → (∀ k, b < k → k ≤ n → f k = g k) → sA f n + sA g b = sA g n + sA f b ∧ sT f n + sT g b = sT g n + sT f b
  | n, h, hk => by
    by_cases e : n = b
    · subst e; omega
    · cases n with
      | zero => omega
      | succ n =>
        obtain ⟨h1, h2⟩ := s_tail (f := f) (g := g) (b := b) (n := n) (by omega) fun k a c => hk k a (by omega)
        have q := hk (n + 1) (by omega) (Nat.le_refl _)
        show sA f n + (if (f (n + 1)).isSome = true then 1 else 0) + sA g b = sA g n + (if (g (n + 1)).isSome = true then 1 else 0) + sA f b ∧ sT f n + (f (n + 1)).getD 0 + sT g b = sT g n + (g (n + 1)).getD 0 + sT f b
        rw [q]
        omega
theorem s_none {f : Nat → Option Nat} {b : Nat} : ∀ {n : Nat}, b ≤ n → (∀ k, b < k → k ≤ n → f k = none) → sA f n = sA f b ∧ sT f n = sT f b
  | n, h, hk => by
    by_cases e : n = b
    · rw [e]; exact ⟨rfl, rfl⟩
    · cases n with
      | zero => omega
      | succ n =>
        obtain ⟨h1, h2⟩ := s_none (f := f) (b := b) (n := n) (by omega) fun k a c => hk k a (by omega)
        have q := hk (n + 1) (by omega) (Nat.le_refl _)
        show sA f n + (if (f (n + 1)).isSome = true then 1 else 0) = _ ∧ sT f n + (f (n + 1)).getD 0 = _
        rw [q]
        exact ⟨h1, h2⟩
section
variable (f : Nat → Option Nat) (V R own : Nat) (u : Bool)
/-- what stands ahead of the endless word with this count -/
def ahE (c : Nat) : Option Nat := if c = 1 ∧ u = true then some 0 else f c
/-- what is said of a number with the endless word outermost -/
def eE (n : Nat) : Option Nat := if n / V = 0 ∨ R < n % V then none else match ahE f u (n / V), f (n % V) with
  | some a, some b => some (a + own + b)
  | _, _ => none
/-- one count with the rests up to this one, 0 among them -/
def blA (c r : Nat) : Nat := if (ahE f u c).isSome = true then 1 + sA f (min r R) else 0
def blT (c r : Nat) : Nat := match ahE f u c with
  | some a => (a + own) * (1 + sA f (min r R)) + sT f (min r R)
  | none => 0
variable {f V R own u}
theorem blk_step (f0 : f 0 = some 0) {c : Nat} (c1 : 1 ≤ c) : ∀ {r : Nat}, r < V → ∀ (A T : Nat), (c * V = 0 ∨ (sA (eE f V R own u) (c * V - 1) = A ∧ sT (eE f V R own u) (c * V - 1) = T)) → 1 ≤ V →
    sA (eE f V R own u) (c * V + r) = A + blA f R u c r ∧ sT (eE f V R own u) (c * V + r) = T + blT f R own u c r
  | 0, hr, A, T, h0, v1 => by
    have p : 0 < c * V := Nat.mul_pos c1 v1
    obtain ⟨a1, a2⟩ : sA (eE f V R own u) (c * V - 1) = A ∧ sT (eE f V R own u) (c * V - 1) = T := by
      rcases h0 with z | z
      · omega
      · exact z
    have e1 : c * V + 0 = (c * V - 1) + 1 := by omega
    have ev : eE f V R own u ((c * V - 1) + 1) = (ahE f u c).map fun a => a + own := by
      have e2 : (c * V - 1) + 1 = c * V := by omega
      rw [e2]
      unfold eE
      rw [Nat.mul_div_cancel _ v1, Nat.mul_mod_left, f0]
      rw [if_neg (by omega)]
      cases ahE f u c <;> rfl
    rw [e1]
    show sA (eE f V R own u) (c * V - 1) + (if (eE f V R own u ((c * V - 1) + 1)).isSome = true then 1 else 0) = _ ∧ sT (eE f V R own u) (c * V - 1) + (eE f V R own u ((c * V - 1) + 1)).getD 0 = _
    rw [ev, a1, a2]
    unfold blA blT
    rw [Nat.zero_min]
    cases ahE f u c with
    | none => exact ⟨rfl, rfl⟩
    | some a =>
      refine ⟨rfl, ?_⟩
      show T + (a + own) = T + ((a + own) * (1 + 0) + 0)
      omega
  | r + 1, hr, A, T, h0, v1 => by
    obtain ⟨i1, i2⟩ := blk_step f0 c1 (r := r) (by omega) A T h0 v1
    have ev : eE f V R own u (c * V + r + 1) = if R < r + 1 then none else match ahE f u c, f (r + 1) with | some a, some b => some (a + own + b) | _, _ => none := by
      unfold eE
      have e1 : (c * V + r + 1) / V = c := by
        rw [Nat.add_assoc, Nat.mul_comm, Nat.mul_add_div v1, Nat.div_eq_of_lt hr, Nat.add_zero]
      have e2 : (c * V + r + 1) % V = r + 1 := by
        rw [Nat.add_assoc, Nat.mul_comm, Nat.mul_add_mod, Nat.mod_eq_of_lt hr]
      rw [e1, e2]
      by_cases z : R < r + 1
      · rw [if_pos (.inr z), if_pos z]
      · rw [if_neg (by omega), if_neg z]
    show sA (eE f V R own u) (c * V + r) + (if (eE f V R own u (c * V + r + 1)).isSome = true then 1 else 0) = _ ∧ sT (eE f V R own u) (c * V + r) + (eE f V R own u (c * V + r + 1)).getD 0 = _
    rw [ev, i1, i2]
    unfold blA blT
    by_cases z : R < r + 1
    · rw [if_pos z, Nat.min_eq_right (by omega : R ≤ r), Nat.min_eq_right (by omega : R ≤ r + 1)]
      exact ⟨rfl, rfl⟩
    · rw [if_neg z, Nat.min_eq_left (by omega : r ≤ R), Nat.min_eq_left (by omega : r + 1 ≤ R)]
      show _ = A + (if (ahE f u c).isSome = true then 1 + (sA f r + (if (f (r + 1)).isSome = true then 1 else 0)) else 0) ∧ _ = T + (match ahE f u c with | some a => (a + own) * (1 + (sA f r + (if (f (r + 1)).isSome = true then 1 else 0))) + (sT f r + (f (r + 1)).getD 0) | none => 0)
      cases ahE f u c with
      | none => exact ⟨rfl, rfl⟩
      | some a =>
        cases f (r + 1) with
        | none =>
          refine ⟨rfl, ?_⟩
          show T + ((a + own) * (1 + sA f r) + sT f r) + 0 = T + ((a + own) * (1 + (sA f r + 0)) + (sT f r + 0))
          rw [Nat.add_zero, Nat.add_zero, Nat.add_zero]
        | some b =>
          refine ⟨by show A + (1 + sA f r) + 1 = A + (1 + (sA f r + 1)); omega, ?_⟩
          show T + ((a + own) * (1 + sA f r) + sT f r) + (a + own + b) = T + ((a + own) * (1 + (sA f r + 1)) + (sT f r + b))
          rw [show 1 + (sA f r + 1) = (1 + sA f r) + 1 by omega, Nat.mul_succ]
          omega
/-- the counts below c, with all rests; the count c with the rests up to r -/
theorem eE_sum (f0 : f 0 = some 0) (v1 : 1 ≤ V) (hR : R < V) : ∀ (c r : Nat), r < V → sA (eE f V R own u) (c * V + r) = sA (ahE f u) (c - 1) * (1 + sA f R) + (if c = 0 then 0 else blA f R u c r) ∧
    sT (eE f V R own u) (c * V + r) = (sT (ahE f u) (c - 1) + sA (ahE f u) (c - 1) * own) * (1 + sA f R) + sA (ahE f u) (c - 1) * sT f R + (if c = 0 then 0 else blT f R own u c r)
  | 0, r, hr => by
    obtain ⟨a, b⟩ := s_none (f := eE f V R own u) (b := 0) (n := r) (Nat.zero_le _) fun k h1 h2 => by
      unfold eE
      rw [if_pos (.inl (Nat.div_eq_of_lt (by omega)))]
    rw [Nat.zero_mul, Nat.zero_add, a, b, if_pos rfl, if_pos rfl]
    show (0 : Nat) = 0 * _ + 0 ∧ 0 = (0 + 0 * own) * _ + 0 * _ + 0
    simp
  | c + 1, r, hr => by
    have ih := eE_sum f0 v1 hR c (V - 1) (by omega)
    have e1 : c * V + (V - 1) = (c + 1) * V - 1 := by rw [Nat.succ_mul]; omega
    rw [e1] at ih
    obtain ⟨b1, b2⟩ := blk_step (own := own) (u := u) (R := R) f0 (c := c + 1) (Nat.succ_pos _) hr _ _ (.inr ⟨ih.1, ih.2⟩) v1
    have hc : ¬ (c + 1 = 0) := by omega
    rw [b1, b2, if_neg hc, if_neg hc]
    show _ = sA (ahE f u) c * (1 + sA f R) + _ ∧ _ = (sT (ahE f u) c + sA (ahE f u) c * own) * (1 + sA f R) + sA (ahE f u) c * sT f R + _
    cases c with
    | zero =>
      rw [if_pos rfl, if_pos rfl]
      show _ ∧ (sT (ahE f u) 0 + sA (ahE f u) 0 * own) * _ + sA (ahE f u) 0 * _ + 0 + _ = _
      exact ⟨by show sA (ahE f u) 0 * _ + 0 + _ = _; rw [Nat.add_zero], by rw [Nat.add_zero]⟩
    | succ c =>
      have hc2 : ¬ (c + 1 = 0) := by omega
      rw [if_neg hc2, if_neg hc2]
      have e2 : min (V - 1) R = R := by omega
      unfold blA blT
      rw [e2]
      show sA (ahE f u) c * (1 + sA f R) + _ + _ = (sA (ahE f u) c + (if (ahE f u (c + 1)).isSome = true then 1 else 0)) * (1 + sA f R) + _ ∧ (sT (ahE f u) c + sA (ahE f u) c * own) * (1 + sA f R) + sA (ahE f u) c * sT f R + _ + _ = (sT (ahE f u) c + (ahE f u (c + 1)).getD 0 + (sA (ahE f u) c + (if (ahE f u (c + 1)).isSome = true then 1 else 0)) * own) * (1 + sA f R) + (sA (ahE f u) c + (if (ahE f u (c + 1)).isSome = true then 1 else 0)) * sT f R + _
      cases ahE f u (c + 1) with
      | none =>
        show _ * _ + 0 + _ = (_ + 0) * _ + _ ∧ _ + 0 + _ = (_ + 0 + (_ + 0) * own) * _ + (_ + 0) * _ + _
        simp only [Nat.add_zero]
        exact ⟨trivial, trivial⟩
      | some a =>
        generalize sA (ahE f u) c = x
        generalize sT (ahE f u) c = y
        generalize hz : 1 + sA f R = z
        generalize sT f R = w
        refine ⟨?_, ?_⟩
        · show x * z + z + _ = (x + 1) * z + _
          rw [Nat.succ_mul]
        · show (y + x * own) * z + x * w + ((a + own) * z + w) + _ = (y + a + (x + 1) * own) * z + (x + 1) * w + _
          rw [Nat.succ_mul, Nat.succ_mul, show y + a + (x * own + own) = (y + x * own) + (a + own) by omega, Nat.add_mul (y + x * own)]
          omega
/-- the counts with something, or nothing where one is not said, ahead -/
theorem ahE_false : ahE f false = f := by
  funext c
  unfold ahE
  rw [if_neg (fun h : c = 1 ∧ false = true => Bool.false_ne_true h.2)]
theorem ahE_true : ∀ c : Nat, sA (ahE f true) (c + 1) = sA f (c + 1) + (if (f 1).isSome = true then 0 else 1) ∧ sT (ahE f true) (c + 1) + (f 1).getD 0 = sT f (c + 1)
  | 0 => by
    have e : ahE f true 1 = some 0 := by unfold ahE; rw [if_pos ⟨rfl, rfl⟩]
    show 0 + (if (ahE f true 1).isSome = true then 1 else 0) = 0 + (if (f 1).isSome = true then 1 else 0) + _ ∧ 0 + (ahE f true 1).getD 0 + _ = 0 + (f 1).getD 0
    rw [e]
    cases f 1 with
    | none => exact ⟨rfl, rfl⟩
    | some a => exact ⟨rfl, by show 0 + 0 + a = 0 + a; omega⟩
  | c + 1 => by
    obtain ⟨i1, i2⟩ := ahE_true c
    have e : ahE f true (c + 1 + 1) = f (c + 1 + 1) := by unfold ahE; rw [if_neg (fun h : c + 1 + 1 = 1 ∧ true = true => by have := h.1; omega)]
    show sA (ahE f true) (c + 1) + (if (ahE f true (c + 1 + 1)).isSome = true then 1 else 0) = sA f (c + 1) + (if (f (c + 1 + 1)).isSome = true then 1 else 0) + _ ∧ sT (ahE f true) (c + 1) + (ahE f true (c + 1 + 1)).getD 0 + _ = sT f (c + 1) + (f (c + 1 + 1)).getD 0
    rw [e]
    exact ⟨by omega, by omega⟩
end
end KN
end
section
set_option Elab.async false
set_option linter.all false
set_option maxRecDepth 100000
set_option maxHeartbeats 4000000
set_option pp.maxSteps 1500
set_option pp.deepTerms false
local macro_rules | `(tactic| walk_at "ne") => `(tactic| first
  | assumption | (apply Ne.symm; assumption)
  | exact R.ne_new (by assumption) | exact (R.ne_new (by assumption)).symm
  | exact L2.ne_of_none (by assumption) (by assumption) | exact (L2.ne_of_none (by assumption) (by assumption)).symm
  | exact L2.ne_of_none (by assumption) (R.free_new (by assumption)) | exact (L2.ne_of_none (by assumption) (R.free_new (by assumption))).symm)
local macro_rules | `(tactic| walk_at "at") => `(tactic| first
  | assumption | exact L2.upd_same
  | (refine R.sb (H := ?H) (p := ?p) ?e ?n ?h; (case e => assumption); (case n => walk_at "ne"); (case h => walk_at "at"))
  | (refine R.sm (H := ?H) ?e ?h; (case e => assumption); (case h => walk_at "at"))
  | (refine Eq.trans (L2.upd_ne ?_) ?_ <;> first | walk_at "ne" | walk_at "at"))
local macro_rules | `(tactic| walk_at "sqt") => `(tactic| first | assumption | (refine L2.SqT.of ?_; walk_at "at"))
local macro_rules | `(tactic| walk_at "ty") => `(tactic| first | exact R.tyN | exact R.tyB | exact R.tyI | exact R.tyS | (refine R.tyT (xs := ?xs) ?h; case h => walk_at "at") | (refine R.tyL (xs := ?xs) ?h; case h => walk_at "at"))
local macro_rules | `(tactic| walk_at "kit") => `(tactic| first | exact R.kit_NoneType_tuple | exact R.kit_NoneType_list | exact R.kit_NoneType_bool | exact R.kit_NoneType_str | exact R.kit_NoneType_int | exact R.kit_bool_tuple | exact R.kit_bool_list | exact R.kit_bool_bool | exact R.kit_bool_str | exact R.kit_bool_int | exact R.kit_int_tuple | exact R.kit_int_list | exact R.kit_int_bool | exact R.kit_int_str | exact R.kit_int_int | exact R.kit_str_tuple | exact R.kit_str_list | exact R.kit_str_bool | exact R.kit_str_str | exact R.kit_str_int | exact R.kit_tuple_tuple | exact R.kit_tuple_list | exact R.kit_tuple_bool | exact R.kit_tuple_str | exact R.kit_tuple_int | exact R.kit_list_tuple | exact R.kit_list_list | exact R.kit_list_bool | exact R.kit_list_str | exact R.kit_list_int)
local macro_rules | `(tactic| walk_at "sz") => `(tactic| first | assumption | (refine Nat.le_trans ?_ (show 1000 ≤ PySem.sizeLine by decide); omega) | decide)
local macro_rules | `(tactic| walk_at "szl") => `(tactic| first | assumption | exact Nat.le_of_lt (L2.small1000 (by omega)) | decide | decide +kernel)
local macro_rules | `(tactic| walk_at "sys") => `(tactic| first | assumption | exact KN.SysAt.same (by assumption) (by assumption))
local macro_rules | `(tactic| walk_at "dk") => `(tactic| first | exact R.rowsS _ _ | exact R.rowsM _ _)
local macro_rules | `(tactic| walk_at "sqa") => `(tactic| first | assumption | exact R.SeqA.same (by assumption) (by assumption) | exact R.SeqA.new (by assumption) (by assumption) | (exact Or.inl (by walk_at "at")) | (exact Or.inr (by walk_at "at")))
local macro_rules | `(tactic| walk_at "ix") => `(tactic| first | rfl | (exact L2.atI_nat (by assumption)) | assumption)
local macro_rules | `(tactic| walk_at "cond") => `(tactic| first
  | exact Or.inl (by decide) | exact Or.inr (by decide) | exact Or.inl ⟨by omega, by omega⟩ | exact Or.inr ⟨by omega, by omega⟩
  | (constructor <;> omega) | (show _ ≠ _; omega) | decide | omega)
local macro_rules | `(tactic| walk_at "r1") => `(tactic| first
  | with_reducible refine R.seq ?_ | with_reducible refine R.asg ?_ | with_reducible refine R.ifs ?_ | with_reducible refine R.ret ?_ | with_reducible refine R.retN ?_ | with_reducible refine R.drop ?_ | with_reducible refine R.next ?_
  | with_reducible refine R.op ?_ | ((with_reducible refine R.var (v := ?v) ?h ?q); case h => rfl) | with_reducible refine R.c ?_ | with_reducible refine R.tst ?_ | with_reducible refine R.tb_ ?_ | with_reducible refine R.ex ?_
  | with_reducible refine R.i0 ?_ | with_reducible refine R.eqI ?_ | with_reducible refine R.neI ?_ | ((with_reducible refine R.ic ?_ ?_); · walk_at "cond") | with_reducible refine R.u0 ?_ | with_reducible refine R.un ?_
  | ((with_reducible refine R.eq ?_ ?_); · rfl) | ((with_reducible refine R.ne ?_ ?_); · rfl)
  | with_reducible refine R.and_ ?_ | with_reducible refine R.or_ ?_ | with_reducible refine R.not_ ?_ | with_reducible refine R.ife ?_ | with_reducible refine R.chain ?_
  | with_reducible refine R.cons ?_ | with_reducible refine R.nil ?_ | with_reducible refine R.call ?_ | with_reducible refine R.cb ?_ | with_reducible refine R.bm ?_
  | with_reducible refine R.gname ?_ | with_reducible refine R.gsub ?_ | with_reducible refine R.gnil ?_ | with_reducible refine R.gcons ?_ | with_reducible refine R.yes ?_
  | with_reducible refine R.int1 ?_ | ((with_reducible refine R.lenL (xs := ?xs) ?h ?q); case h => walk_at "at")
  | ((with_reducible refine R.ixL (xs := ?xs) (v := ?v) ?h ?e ?q); (case h => walk_at "at"); (case e => walk_at "ix"))
  | ((with_reducible refine R.setL (xs := ?xs) (n := ?n) ?h ?e ?q); (case h => walk_at "at"); (case e => rfl))
  | ((with_reducible refine R.append (xs := ?xs) ?h ?e ?q); (case h => walk_at "at"); (case e => walk_at "cond"))
  | with_reducible refine R.is_ ?_ | with_reducible refine R.isnot ?_ | with_reducible refine R.andV ?_ | with_reducible refine R.orV ?_ | with_reducible refine R.notV ?_
  | ((with_reducible refine R.isi (s := ?s) (b := ?b) ?ty ?h ?q); (case ty => walk_at "ty"); (case h => walk_at "kit"))
  | ((with_reducible refine R.addS ?h ?q); (case h => walk_at "sz")) | with_reducible refine R.max2 ?_ | with_reducible refine R.min2 ?_
  | ((with_reducible refine R.lenStr ?h ?q); (case h => walk_at "szl")) | ((with_reducible refine R.ixS (n := ?n) ?h ?e ?q); (case h => walk_at "szl"); (case e => walk_at "ix"))
  | ((with_reducible refine R.tyl (xs := ?xs) ?h ?q); (case h => walk_at "at")) | with_reducible refine R.itlist ?_ | with_reducible refine R.ittup ?_ | with_reducible refine R.m1 ?_ | with_reducible refine R.m1s ?_ | with_reducible refine R.leS ?_ | with_reducible refine R.itstr ?_ | with_reducible refine R.itstrE ?_ | with_reducible refine R.lc ?_ | with_reducible refine R.lc2 ?_ | with_reducible refine R.ckw ?_ | with_reducible refine R.par ?_ | with_reducible refine R.parE ?_ | with_reducible refine R.itrev ?_ | with_reducible refine R.dsetd ?_ | with_reducible refine R.dnotin_ ?_ | with_reducible refine R.for_ ?_ | ((with_reducible refine R.all_ (bs := ?bs) ?h ?q); (case h => walk_at "at"))
  | with_reducible refine R.rng1 ?_ | ((with_reducible refine R.rngE ?h ?q); (case h => (constructor <;> omega)))
  | ((with_reducible refine R.lenT (xs := ?xs) ?h ?q); (case h => walk_at "sqt")) | ((with_reducible refine R.ixT (xs := ?xs) (v := ?v) ?h ?e ?q); (case h => walk_at "sqt"); (case e => walk_at "ix"))
  | ((refine R.itlE (xs := ?xs) ?h ?q); (case h => walk_at "at")) | ((refine R.ittE (xs := ?xs) ?h ?q); (case h => walk_at "at"))
  | ((refine R.gseq (xs := ?xs) ?h ?e ?q); (case h => walk_at "sqa"); (case e => rfl)) | ((refine R.ixA (xs := ?xs) (v := ?v) ?h ?e ?q); (case h => walk_at "sqa"); (case e => walk_at "ix")) | ((refine R.lenA (xs := ?xs) ?h ?q); (case h => walk_at "sqa"))
  | ((with_reducible refine R.gtup (xs := ?xs) ?h ?e ?q); (case h => walk_at "sqt"); (case e => rfl))
  | with_reducible refine R.din_ ?_ | with_reducible refine R.dput_ ?_
  | with_reducible refine R.dget2_ ?_ | ((with_reducible refine R.aug_ (x := ?x) ?h ?q); case h => rfl) | with_reducible refine R.ipI_ ?_
  | with_reducible refine R.rng2 ?_ | ((with_reducible refine R.rngE2 ?h ?q); (case h => (refine ⟨?_, ?_, ?_, ?_⟩ <;> omega)))
  | with_reducible refine R.brk ?_ | with_reducible refine R.intB ?_ | with_reducible refine R.meth_ ?_ | ((refine KN.methS (rs := ?rs) (ms := ?ms) ?h (fun _ _ _ _ => rfl) ?q); case h => walk_at "sys")
  | with_reducible refine R.sl_ ?_ | with_reducible refine R.np_ ?_ | with_reducible refine R.pt_ ?_ | with_reducible refine R.ptE ?_ | with_reducible refine R.dget_ ?_ | with_reducible refine R.revL_ ?_
  | ((refine R.dgetS (kvs := ?kvs) (v := ?v) ?h ?e ?q); (case h => walk_at "at"); (case e => walk_at "dk"))
  | with_reducible refine R.sfld ?_ | with_reducible refine R.fld_ ?_ | with_reducible refine R.dc ?_
  | with_reducible refine R.dget1_ ?_
  | with_reducible refine R.itseq ?_ | with_reducible refine R.itenum ?_
  | with_reducible refine R.itT ?_ | with_reducible refine R.itF ?_ | with_reducible refine R.itNT ?_ | with_reducible refine R.itNF ?_
  | (with_reducible refine R.tup ?_) | (with_reducible refine R.lst ?_))
local macro_rules | `(tactic| walk_at "rd") => `(tactic| (repeat (first | walk_at "r1" | (dsimp only [Int.reduceToNat, List.set_cons_succ, List.set_cons_zero, List.length_cons, List.length_nil, List.nil_append, List.cons_append, List.append_nil]))))
local macro_rules | `(tactic| walk_at "go") => `(tactic| (rw [R.start_eq]; dsimp only [R.startE, List.map_nil]; walk_at "rd"))
namespace KN
open PySem L2 SX R
open C8 (Cal Def cal0 pe_c pe_gc fnScope fnBody pss_cut Met met0 pe_mt pe_mt0)
theorem one_of {α : Type} {l : List α} {a : α} (h : l.length ≤ 1) (m : a ∈ l) : l = [a] := by
  cases l with
  | nil => cases m
  | cons b l =>
    cases l with
    | nil => rw [List.mem_singleton.mp m]
    | cons c l => simp at h
def endW (ms : List MR) : Str := match endF ms with
  | some m => m.w
  | none => Str.empty
/-- above the bounded maximum the endless multiplier alone is the outermost word -/
theorem big_ph {rs : List SR} {ms : List MR} (g : GoodSys rs ms) {h : Int} {m : MR} (hm : endF ms = some m) (hb : bmax rs ms < h) (hv : m.v ≤ h) (hr : h % m.v ≤ m.r) :
    ph rs ms h = prodL (ph rs ms (if m.u = true ∧ h / m.v = 1 then 0 else h / m.v)) m.w (ph rs ms (h % m.v)) := by
  have mm := List.mem_of_find?_eq_some hm
  have mn : m.c.isNone = true := List.find?_some (p := fun m : MR => m.c.isNone) hm
  have hvv : ∀ m ∈ ms, 2 ≤ m.v := fun m hm => (g.m m hm).lo
  have lo := hvv m mm
  obtain ⟨_, b0⟩ := bmax_le g
  obtain ⟨a1, a2, _⟩ := bms_max rs 0
  obtain ⟨c1, c2, _⟩ := bmm_max ms (bms 0 rs)
  have n0 : nmL rs h = [] := by
    unfold nmL
    rw [List.filter_eq_nil_iff.mpr, List.map_nil]
    intro r hr e
    have e := of_decide_eq_true e
    have := a2 r hr
    unfold bmax at hb
    omega
  have ok : okT m h = true := okT_iff.mpr ⟨(Int.le_ediv_iff_mul_le (by omega)).mpr (by omega), hr, by rw [Option.isNone_iff_eq_none.mp mn]; rfl⟩
  have sub : ∀ q ∈ ms, okT q h = true → q.c.isNone = true := fun q hq hok => by
    cases hc : q.c with
    | none => rfl
    | some c =>
      exfalso
      obtain ⟨o1, o2, o3⟩ := okT_iff.mp hok
      rw [hc] at o3
      have o3 : h / q.v ≤ c := of_decide_eq_true o3
      have q2 := hvv q hq
      have e := Int.mul_ediv_add_emod h q.v
      have le : q.v * (h / q.v) ≤ q.v * c := Int.mul_le_mul_of_nonneg_left o3 (by omega)
      have := c2 q hq c hc
      rw [Int.mul_comm c q.v] at this
      unfold bmax at hb
      omega
  have fl : ms.filter (fun m => okT m h) = [m] := by
    refine one_of (Nat.le_trans ?_ g.one) (List.mem_filter.mpr ⟨mm, ok⟩)
    have : (ms.filter fun m => okT m h) = (ms.filter fun m => okT m h).filter (fun r => r.c.isNone) := by
      rw [List.filter_filter]
      refine List.filter_congr fun q hq => ?_
      cases z : okT q h with
      | false => simp
      | true => rw [sub q hq z]; rfl
    rw [this, List.filter_filter]
    have e2 : (ms.filter fun a => a.c.isNone && okT a h).length ≤ (ms.filter fun a => a.c.isNone).length := by
      have : (ms.filter fun a => a.c.isNone && okT a h) = (ms.filter fun a => a.c.isNone).filter (fun a => okT a h) := by
        rw [List.filter_filter]
        exact List.filter_congr fun q _ => Bool.and_comm _ _
      rw [this]
      exact List.length_filter_le _ _
    exact e2
  rw [ph_eq hvv (by omega), n0, List.map_nil, List.nil_append]
  unfold splF
  rw [fl, List.map_cons, List.map_nil, List.flatMap_cons, List.flatMap_nil, List.append_nil]
end KN
end
section
set_option Elab.async false
set_option linter.all false
set_option maxRecDepth 100000
set_option maxHeartbeats 4000000
set_option pp.maxSteps 1500
set_option pp.deepTerms false
local macro_rules | `(tactic| walk_at "ne") => `(tactic| first
  | assumption | (apply Ne.symm; assumption)
  | exact R.ne_new (by assumption) | exact (R.ne_new (by assumption)).symm
  | exact L2.ne_of_none (by assumption) (by assumption) | exact (L2.ne_of_none (by assumption) (by assumption)).symm
  | exact L2.ne_of_none (by assumption) (R.free_new (by assumption)) | exact (L2.ne_of_none (by assumption) (R.free_new (by assumption))).symm)
local macro_rules | `(tactic| walk_at "at") => `(tactic| first
  | assumption | exact L2.upd_same
  | (refine R.sb (H := ?H) (p := ?p) ?e ?n ?h; (case e => assumption); (case n => walk_at "ne"); (case h => walk_at "at"))
  | (refine R.sm (H := ?H) ?e ?h; (case e => assumption); (case h => walk_at "at"))
  | (refine Eq.trans (L2.upd_ne ?_) ?_ <;> first | walk_at "ne" | walk_at "at"))
local macro_rules | `(tactic| walk_at "sqt") => `(tactic| first | assumption | (refine L2.SqT.of ?_; walk_at "at"))
local macro_rules | `(tactic| walk_at "ty") => `(tactic| first | exact R.tyN | exact R.tyB | exact R.tyI | exact R.tyS | (refine R.tyT (xs := ?xs) ?h; case h => walk_at "at") | (refine R.tyL (xs := ?xs) ?h; case h => walk_at "at"))
local macro_rules | `(tactic| walk_at "kit") => `(tactic| first | exact R.kit_NoneType_tuple | exact R.kit_NoneType_list | exact R.kit_NoneType_bool | exact R.kit_NoneType_str | exact R.kit_NoneType_int | exact R.kit_bool_tuple | exact R.kit_bool_list | exact R.kit_bool_bool | exact R.kit_bool_str | exact R.kit_bool_int | exact R.kit_int_tuple | exact R.kit_int_list | exact R.kit_int_bool | exact R.kit_int_str | exact R.kit_int_int | exact R.kit_str_tuple | exact R.kit_str_list | exact R.kit_str_bool | exact R.kit_str_str | exact R.kit_str_int | exact R.kit_tuple_tuple | exact R.kit_tuple_list | exact R.kit_tuple_bool | exact R.kit_tuple_str | exact R.kit_tuple_int | exact R.kit_list_tuple | exact R.kit_list_list | exact R.kit_list_bool | exact R.kit_list_str | exact R.kit_list_int)
local macro_rules | `(tactic| walk_at "sz") => `(tactic| first | assumption | (refine Nat.le_trans ?_ (show 1000 ≤ PySem.sizeLine by decide); omega) | decide)
local macro_rules | `(tactic| walk_at "szl") => `(tactic| first | assumption | exact Nat.le_of_lt (L2.small1000 (by omega)) | decide | decide +kernel)
local macro_rules | `(tactic| walk_at "sys") => `(tactic| first | assumption | exact KN.SysAt.same (by assumption) (by assumption))
local macro_rules | `(tactic| walk_at "dk") => `(tactic| first | exact R.rowsS _ _ | exact R.rowsM _ _)
local macro_rules | `(tactic| walk_at "sqa") => `(tactic| first | assumption | exact R.SeqA.same (by assumption) (by assumption) | exact R.SeqA.new (by assumption) (by assumption) | (exact Or.inl (by walk_at "at")) | (exact Or.inr (by walk_at "at")))
local macro_rules | `(tactic| walk_at "ix") => `(tactic| first | rfl | (exact L2.atI_nat (by assumption)) | assumption)
local macro_rules | `(tactic| walk_at "cond") => `(tactic| first
  | exact Or.inl (by decide) | exact Or.inr (by decide) | exact Or.inl ⟨by omega, by omega⟩ | exact Or.inr ⟨by omega, by omega⟩
  | (constructor <;> omega) | (show _ ≠ _; omega) | decide | omega)
local macro_rules | `(tactic| walk_at "r1") => `(tactic| first
  | with_reducible refine R.seq ?_ | with_reducible refine R.asg ?_ | with_reducible refine R.ifs ?_ | with_reducible refine R.ret ?_ | with_reducible refine R.retN ?_ | with_reducible refine R.drop ?_ | with_reducible refine R.next ?_
  | with_reducible refine R.op ?_ | ((with_reducible refine R.var (v := ?v) ?h ?q); case h => rfl) | with_reducible refine R.c ?_ | with_reducible refine R.tst ?_ | with_reducible refine R.tb_ ?_ | with_reducible refine R.ex ?_
  | with_reducible refine R.i0 ?_ | with_reducible refine R.eqI ?_ | with_reducible refine R.neI ?_ | ((with_reducible refine R.ic ?_ ?_); · walk_at "cond") | with_reducible refine R.u0 ?_ | with_reducible refine R.un ?_
  | ((with_reducible refine R.eq ?_ ?_); · rfl) | ((with_reducible refine R.ne ?_ ?_); · rfl)
  | with_reducible refine R.and_ ?_ | with_reducible refine R.or_ ?_ | with_reducible refine R.not_ ?_ | with_reducible refine R.ife ?_ | with_reducible refine R.chain ?_
  | with_reducible refine R.cons ?_ | with_reducible refine R.nil ?_ | with_reducible refine R.call ?_ | with_reducible refine R.cb ?_ | with_reducible refine R.bm ?_
  | with_reducible refine R.gname ?_ | with_reducible refine R.gsub ?_ | with_reducible refine R.gnil ?_ | with_reducible refine R.gcons ?_ | with_reducible refine R.yes ?_
  | with_reducible refine R.int1 ?_ | ((with_reducible refine R.lenL (xs := ?xs) ?h ?q); case h => walk_at "at")
  | ((with_reducible refine R.ixL (xs := ?xs) (v := ?v) ?h ?e ?q); (case h => walk_at "at"); (case e => walk_at "ix"))
  | ((with_reducible refine R.setL (xs := ?xs) (n := ?n) ?h ?e ?q); (case h => walk_at "at"); (case e => rfl))
  | ((with_reducible refine R.append (xs := ?xs) ?h ?e ?q); (case h => walk_at "at"); (case e => walk_at "cond"))
  | with_reducible refine R.is_ ?_ | with_reducible refine R.isnot ?_ | with_reducible refine R.andV ?_ | with_reducible refine R.orV ?_ | with_reducible refine R.notV ?_
  | ((with_reducible refine R.isi (s := ?s) (b := ?b) ?ty ?h ?q); (case ty => walk_at "ty"); (case h => walk_at "kit"))
  | ((with_reducible refine R.addS ?h ?q); (case h => walk_at "sz")) | with_reducible refine R.max2 ?_ | with_reducible refine R.min2 ?_
  | ((with_reducible refine R.lenStr ?h ?q); (case h => walk_at "szl")) | ((with_reducible refine R.ixS (n := ?n) ?h ?e ?q); (case h => walk_at "szl"); (case e => walk_at "ix"))
  | ((with_reducible refine R.tyl (xs := ?xs) ?h ?q); (case h => walk_at "at")) | with_reducible refine R.itlist ?_ | with_reducible refine R.ittup ?_ | with_reducible refine R.m1 ?_ | with_reducible refine R.m1s ?_ | with_reducible refine R.leS ?_ | with_reducible refine R.itstr ?_ | with_reducible refine R.itstrE ?_ | with_reducible refine R.lc ?_ | with_reducible refine R.lc2 ?_ | with_reducible refine R.ckw ?_ | with_reducible refine R.par ?_ | with_reducible refine R.parE ?_ | with_reducible refine R.itrev ?_ | with_reducible refine R.dsetd ?_ | with_reducible refine R.dnotin_ ?_ | with_reducible refine R.for_ ?_ | ((with_reducible refine R.all_ (bs := ?bs) ?h ?q); (case h => walk_at "at"))
  | with_reducible refine R.rng1 ?_ | ((with_reducible refine R.rngE ?h ?q); (case h => (constructor <;> omega)))
  | ((with_reducible refine R.lenT (xs := ?xs) ?h ?q); (case h => walk_at "sqt")) | ((with_reducible refine R.ixT (xs := ?xs) (v := ?v) ?h ?e ?q); (case h => walk_at "sqt"); (case e => walk_at "ix"))
  | ((refine R.itlE (xs := ?xs) ?h ?q); (case h => walk_at "at")) | ((refine R.ittE (xs := ?xs) ?h ?q); (case h => walk_at "at"))
  | ((refine R.gseq (xs := ?xs) ?h ?e ?q); (case h => walk_at "sqa"); (case e => rfl)) | ((refine R.ixA (xs := ?xs) (v := ?v) ?h ?e ?q); (case h => walk_at "sqa"); (case e => walk_at "ix")) | ((refine R.lenA (xs := ?xs) ?h ?q); (case h => walk_at "sqa"))
  | ((with_reducible refine R.gtup (xs := ?xs) ?h ?e ?q); (case h => walk_at "sqt"); (case e => rfl))
  | with_reducible refine R.din_ ?_ | with_reducible refine R.dput_ ?_
  | with_reducible refine R.dget2_ ?_ | ((with_reducible refine R.aug_ (x := ?x) ?h ?q); case h => rfl) | with_reducible refine R.ipI_ ?_
  | with_reducible refine R.rng2 ?_ | ((with_reducible refine R.rngE2 ?h ?q); (case h => (refine ⟨?_, ?_, ?_, ?_⟩ <;> omega)))
  | with_reducible refine R.brk ?_ | with_reducible refine R.intB ?_ | with_reducible refine R.meth_ ?_ | ((refine KN.methS (rs := ?rs) (ms := ?ms) ?h (fun _ _ _ _ => rfl) ?q); case h => walk_at "sys")
  | with_reducible refine R.sl_ ?_ | with_reducible refine R.np_ ?_ | with_reducible refine R.pt_ ?_ | with_reducible refine R.ptE ?_ | with_reducible refine R.dget_ ?_ | with_reducible refine R.revL_ ?_
  | ((refine R.dgetS (kvs := ?kvs) (v := ?v) ?h ?e ?q); (case h => walk_at "at"); (case e => walk_at "dk"))
  | with_reducible refine R.sfld ?_ | with_reducible refine R.fld_ ?_ | with_reducible refine R.dc ?_
  | with_reducible refine R.dget1_ ?_
  | with_reducible refine R.itseq ?_ | with_reducible refine R.itenum ?_
  | with_reducible refine R.itT ?_ | with_reducible refine R.itF ?_ | with_reducible refine R.itNT ?_ | with_reducible refine R.itNF ?_
  | (with_reducible refine R.tup ?_) | (with_reducible refine R.lst ?_))
local macro_rules | `(tactic| walk_at "rd") => `(tactic| (repeat (first | walk_at "r1" | (dsimp only [Int.reduceToNat, List.set_cons_succ, List.set_cons_zero, List.length_cons, List.length_nil, List.nil_append, List.cons_append, List.append_nil]))))
local macro_rules | `(tactic| walk_at "go") => `(tactic| (rw [R.start_eq]; dsimp only [R.startE, List.map_nil]; walk_at "rd"))
namespace KN
open PySem L2 SX R
/-- above the bounded maximum nothing is said but with the endless word -/
theorem big_none {rs : List SR} {ms : List MR} (g : GoodSys rs ms) {h : Int} (h0 : 1 ≤ h) (hb : bmax rs ms < h) (hno : ∀ m, endF ms = some m → okT m h = false) : ph rs ms h = [] := by
  have hvv : ∀ m ∈ ms, 2 ≤ m.v := fun m hm => (g.m m hm).lo
  obtain ⟨a1, a2, _⟩ := bms_max rs 0
  obtain ⟨c1, c2, _⟩ := bmm_max ms (bms 0 rs)
  have n0 : nmL rs h = [] := by
    unfold nmL
    rw [List.filter_eq_nil_iff.mpr, List.map_nil]
    intro r hr e
    have e := of_decide_eq_true e
    have := a2 r hr
    unfold bmax at hb
    omega
  have sub : ∀ q ∈ ms, okT q h = true → q.c.isNone = true := fun q hq hok => by
    cases hc : q.c with
    | none => rfl
    | some c =>
      exfalso
      obtain ⟨o1, o2, o3⟩ := okT_iff.mp hok
      rw [hc] at o3
      have o3 : h / q.v ≤ c := of_decide_eq_true o3
      have q2 := hvv q hq
      have e := Int.mul_ediv_add_emod h q.v
      have le : q.v * (h / q.v) ≤ q.v * c := Int.mul_le_mul_of_nonneg_left o3 (by omega)
      have := c2 q hq c hc
      rw [Int.mul_comm c q.v] at this
      unfold bmax at hb
      omega
  have fl : ms.filter (fun m => okT m h) = [] := by
    rw [List.filter_eq_nil_iff]
    intro q hq hok
    have hn := sub q hq hok
    cases he : endF ms with
    | none =>
      have := List.find?_eq_none.mp he q hq
      exact this hn
    | some m =>
      have mm := List.mem_of_find?_eq_some he
      have mn : m.c.isNone = true := List.find?_some (p := fun m : MR => m.c.isNone) he
      have l1 := one_of g.one (List.mem_filter.mpr ⟨mm, mn⟩)
      have l2 := one_of g.one (List.mem_filter.mpr ⟨hq, hn⟩)
      rw [l1] at l2
      have e : m = q := (List.cons.inj l2).1
      subst e
      rw [hno _ he] at hok
      cases hok
  rw [ph_eq hvv h0, n0, List.map_nil, List.nil_append]
  unfold splF
  rw [fl]
  rfl
section
variable {rs : List SR} {ms : List MR} (cs : List Str)
def WN (rs : List SR) (ms : List MR) (cs : List Str) (k : Nat) : Option Nat := Wn rs ms cs (k : Int)
theorem WN_zero : WN rs ms cs 0 = some 0 := Wn_zero rs ms cs
theorem WN_le (hv : ∀ m ∈ ms, 2 ≤ m.v) (k a : Nat) (h : WN rs ms cs k = some a) : a ≤ k := by
  have := Wn_le hv (show (0 : Int) ≤ (k : Int) by omega) h
  omega
theorem WN_big (g : GoodSys rs ms) {m : MR} (hm : endF ms = some m) {k : Nat} (hk : (bmax rs ms).toNat < k) : WN rs ms cs k = eE (WN rs ms cs) m.v.toNat m.r.toNat (ownW cs m.w) m.u k := by
  have mm := List.mem_of_find?_eq_some hm
  have gm := g.m m mm
  have lo := gm.lo
  have r0 := gm.r0
  have r1 := gm.r1
  have hb : bmax rs ms < (k : Int) := by omega
  have ev : ((m.v.toNat : Nat) : Int) = m.v := by omega
  have ed : (((k / m.v.toNat : Nat)) : Int) = (k : Int) / m.v := by rw [Int.natCast_ediv, ev]
  have em : (((k % m.v.toNat : Nat)) : Int) = (k : Int) % m.v := by rw [Int.natCast_emod, ev]
  have mn : m.c.isNone = true := List.find?_some (p := fun m : MR => m.c.isNone) hm
  have d0 : 0 ≤ (k : Int) / m.v := Int.ediv_nonneg (by omega) (by omega)
  have em0 : 0 ≤ (k : Int) % m.v := Int.emod_nonneg _ (by omega)
  unfold eE
  by_cases z : k / m.v.toNat = 0 ∨ m.r.toNat < k % m.v.toNat
  · rw [if_pos z]
    show Wn rs ms cs (k : Int) = none
    unfold Wn
    rw [big_none g (by have := (bmax_le g).2; omega) hb (fun m' hm' => by
      rw [hm] at hm'
      cases hm'
      cases q : okT m (k : Int) with
      | false => rfl
      | true =>
        exfalso
        obtain ⟨o1, o2, _⟩ := okT_iff.mp q
        rcases z with z | z <;> omega)]
    rfl
  · rw [if_neg z]
    have c1 : 1 ≤ (k : Int) / m.v := by omega
    have hv : m.v ≤ (k : Int) := by
      have := (Int.le_ediv_iff_mul_le (show 0 < m.v by omega)).mp c1
      omega
    show Wn rs ms cs (k : Int) = _
    unfold Wn
    rw [big_ph g hm hb hv (by omega), prodL_hd]
    have ea : ahE (WN rs ms cs) m.u (k / m.v.toNat) = Wn rs ms cs (if m.u = true ∧ (k : Int) / m.v = 1 then 0 else (k : Int) / m.v) := by
      unfold ahE
      by_cases q : m.u = true ∧ (k : Int) / m.v = 1
      · rw [if_pos q, if_pos ⟨by omega, q.1⟩, Wn_zero]
      · rw [if_neg q, if_neg (fun h => q ⟨h.2, by omega⟩)]
        unfold WN
        rw [ed]
    have eb : WN rs ms cs (k % m.v.toNat) = Wn rs ms cs ((k : Int) % m.v) := by unfold WN; rw [em]
    rw [ea, eb]
    unfold Wn
    cases (ph rs ms (if m.u = true ∧ (k : Int) / m.v = 1 then 0 else (k : Int) / m.v)).head? with
    | none => rfl
    | some a =>
      cases (ph rs ms ((k : Int) % m.v)).head? with
      | none => rfl
      | some b =>
        show some (cw cs (a ++ m.w :: b)) = some (cw cs a + ownW cs m.w + cw cs b)
        rw [cw_app]
theorem WN_none (g : GoodSys rs ms) (hm : endF ms = none) {k : Nat} (hk : (bmax rs ms).toNat < k) : WN rs ms cs k = none := by
  show Wn rs ms cs (k : Int) = none
  unfold Wn
  rw [big_none g (by have := (bmax_le g).2; omega) (by omega) (fun m' hm' => by rw [hm] at hm'; cases hm')]
  rfl
theorem WN_mid (g : GoodSys rs ms) {m : MR} (hm : endF ms = some m) {k : Nat} (hk : (bmax rs ms).toNat < k) (hv : k < m.v.toNat) : WN rs ms cs k = none := by
  rw [WN_big cs g hm hk]
  unfold eE
  rw [if_pos (.inl (Nat.div_eq_of_lt hv))]
end
end KN
end
section
set_option Elab.async false
set_option linter.all false
set_option maxRecDepth 100000
set_option maxHeartbeats 4000000
set_option pp.maxSteps 1500
set_option pp.deepTerms false
local macro_rules | `(tactic| walk_at "ne") => `(tactic| first
  | assumption | (apply Ne.symm; assumption)
  | exact R.ne_new (by assumption) | exact (R.ne_new (by assumption)).symm
  | exact L2.ne_of_none (by assumption) (by assumption) | exact (L2.ne_of_none (by assumption) (by assumption)).symm
  | exact L2.ne_of_none (by assumption) (R.free_new (by assumption)) | exact (L2.ne_of_none (by assumption) (R.free_new (by assumption))).symm)
local macro_rules | `(tactic| walk_at "at") => `(tactic| first
  | assumption | exact L2.upd_same
  | (refine R.sb (H := ?H) (p := ?p) ?e ?n ?h; (case e => assumption); (case n => walk_at "ne"); (case h => walk_at "at"))
  | (refine R.sm (H := ?H) ?e ?h; (case e => assumption); (case h => walk_at "at"))
  | (refine Eq.trans (L2.upd_ne ?_) ?_ <;> first | walk_at "ne" | walk_at "at"))
local macro_rules | `(tactic| walk_at "sqt") => `(tactic| first | assumption | (refine L2.SqT.of ?_; walk_at "at"))
local macro_rules | `(tactic| walk_at "ty") => `(tactic| first | exact R.tyN | exact R.tyB | exact R.tyI | exact R.tyS | (refine R.tyT (xs := ?xs) ?h; case h => walk_at "at") | (refine R.tyL (xs := ?xs) ?h; case h => walk_at "at"))
local macro_rules | `(tactic| walk_at "kit") => `(tactic| first | exact R.kit_NoneType_tuple | exact R.kit_NoneType_list | exact R.kit_NoneType_bool | exact R.kit_NoneType_str | exact R.kit_NoneType_int | exact R.kit_bool_tuple | exact R.kit_bool_list | exact R.kit_bool_bool | exact R.kit_bool_str | exact R.kit_bool_int | exact R.kit_int_tuple | exact R.kit_int_list | exact R.kit_int_bool | exact R.kit_int_str | exact R.kit_int_int | exact R.kit_str_tuple | exact R.kit_str_list | exact R.kit_str_bool | exact R.kit_str_str | exact R.kit_str_int | exact R.kit_tuple_tuple | exact R.kit_tuple_list | exact R.kit_tuple_bool | exact R.kit_tuple_str | exact R.kit_tuple_int | exact R.kit_list_tuple | exact R.kit_list_list | exact R.kit_list_bool | exact R.kit_list_str | exact R.kit_list_int)
local macro_rules | `(tactic| walk_at "sz") => `(tactic| first | assumption | (refine Nat.le_trans ?_ (show 1000 ≤ PySem.sizeLine by decide); omega) | decide)
local macro_rules | `(tactic| walk_at "szl") => `(tactic| first | assumption | exact Nat.le_of_lt (L2.small1000 (by omega)) | decide | decide +kernel)
local macro_rules | `(tactic| walk_at "sys") => `(tactic| first | assumption | exact KN.SysAt.same (by assumption) (by assumption))
local macro_rules | `(tactic| walk_at "dk") => `(tactic| first | exact R.rowsS _ _ | exact R.rowsM _ _)
local macro_rules | `(tactic| walk_at "sqa") => `(tactic| first | assumption | exact R.SeqA.same (by assumption) (by assumption) | exact R.SeqA.new (by assumption) (by assumption) | (exact Or.inl (by walk_at "at")) | (exact Or.inr (by walk_at "at")))
local macro_rules | `(tactic| walk_at "ix") => `(tactic| first | rfl | (exact L2.atI_nat (by assumption)) | assumption)
local macro_rules | `(tactic| walk_at "cond") => `(tactic| first
  | exact Or.inl (by decide) | exact Or.inr (by decide) | exact Or.inl ⟨by omega, by omega⟩ | exact Or.inr ⟨by omega, by omega⟩
  | (constructor <;> omega) | (show _ ≠ _; omega) | decide | omega)
local macro_rules | `(tactic| walk_at "r1") => `(tactic| first
  | with_reducible refine R.seq ?_ | with_reducible refine R.asg ?_ | with_reducible refine R.ifs ?_ | with_reducible refine R.ret ?_ | with_reducible refine R.retN ?_ | with_reducible refine R.drop ?_ | with_reducible refine R.next ?_
  | with_reducible refine R.op ?_ | ((with_reducible refine R.var (v := ?v) ?h ?q); case h => rfl) | with_reducible refine R.c ?_ | with_reducible refine R.tst ?_ | with_reducible refine R.tb_ ?_ | with_reducible refine R.ex ?_
  | with_reducible refine R.i0 ?_ | with_reducible refine R.eqI ?_ | with_reducible refine R.neI ?_ | ((with_reducible refine R.ic ?_ ?_); · walk_at "cond") | with_reducible refine R.u0 ?_ | with_reducible refine R.un ?_
  | ((with_reducible refine R.eq ?_ ?_); · rfl) | ((with_reducible refine R.ne ?_ ?_); · rfl)
  | with_reducible refine R.and_ ?_ | with_reducible refine R.or_ ?_ | with_reducible refine R.not_ ?_ | with_reducible refine R.ife ?_ | with_reducible refine R.chain ?_
  | with_reducible refine R.cons ?_ | with_reducible refine R.nil ?_ | with_reducible refine R.call ?_ | with_reducible refine R.cb ?_ | with_reducible refine R.bm ?_
  | with_reducible refine R.gname ?_ | with_reducible refine R.gsub ?_ | with_reducible refine R.gnil ?_ | with_reducible refine R.gcons ?_ | with_reducible refine R.yes ?_
  | with_reducible refine R.int1 ?_ | ((with_reducible refine R.lenL (xs := ?xs) ?h ?q); case h => walk_at "at")
  | ((with_reducible refine R.ixL (xs := ?xs) (v := ?v) ?h ?e ?q); (case h => walk_at "at"); (case e => walk_at "ix"))
  | ((with_reducible refine R.setL (xs := ?xs) (n := ?n) ?h ?e ?q); (case h => walk_at "at"); (case e => rfl))
  | ((with_reducible refine R.append (xs := ?xs) ?h ?e ?q); (case h => walk_at "at"); (case e => walk_at "cond"))
  | with_reducible refine R.is_ ?_ | with_reducible refine R.isnot ?_ | with_reducible refine R.andV ?_ | with_reducible refine R.orV ?_ | with_reducible refine R.notV ?_
  | ((with_reducible refine R.isi (s := ?s) (b := ?b) ?ty ?h ?q); (case ty => walk_at "ty"); (case h => walk_at "kit"))
  | ((with_reducible refine R.addS ?h ?q); (case h => walk_at "sz")) | with_reducible refine R.max2 ?_ | with_reducible refine R.min2 ?_
  | ((with_reducible refine R.lenStr ?h ?q); (case h => walk_at "szl")) | ((with_reducible refine R.ixS (n := ?n) ?h ?e ?q); (case h => walk_at "szl"); (case e => walk_at "ix"))
  | ((with_reducible refine R.tyl (xs := ?xs) ?h ?q); (case h => walk_at "at")) | with_reducible refine R.itlist ?_ | with_reducible refine R.ittup ?_ | with_reducible refine R.m1 ?_ | with_reducible refine R.m1s ?_ | with_reducible refine R.leS ?_ | with_reducible refine R.itstr ?_ | with_reducible refine R.itstrE ?_ | with_reducible refine R.lc ?_ | with_reducible refine R.lc2 ?_ | with_reducible refine R.ckw ?_ | with_reducible refine R.par ?_ | with_reducible refine R.parE ?_ | with_reducible refine R.itrev ?_ | with_reducible refine R.dsetd ?_ | with_reducible refine R.dnotin_ ?_ | with_reducible refine R.for_ ?_ | ((with_reducible refine R.all_ (bs := ?bs) ?h ?q); (case h => walk_at "at"))
  | with_reducible refine R.rng1 ?_ | ((with_reducible refine R.rngE ?h ?q); (case h => (constructor <;> omega)))
  | ((with_reducible refine R.lenT (xs := ?xs) ?h ?q); (case h => walk_at "sqt")) | ((with_reducible refine R.ixT (xs := ?xs) (v := ?v) ?h ?e ?q); (case h => walk_at "sqt"); (case e => walk_at "ix"))
  | ((refine R.itlE (xs := ?xs) ?h ?q); (case h => walk_at "at")) | ((refine R.ittE (xs := ?xs) ?h ?q); (case h => walk_at "at"))
  | ((refine R.gseq (xs := ?xs) ?h ?e ?q); (case h => walk_at "sqa"); (case e => rfl)) | ((refine R.ixA (xs := ?xs) (v := ?v) ?h ?e ?q); (case h => walk_at "sqa"); (case e => walk_at "ix")) | ((refine R.lenA (xs := ?xs) ?h ?q); (case h => walk_at "sqa"))
  | ((with_reducible refine R.gtup (xs := ?xs) ?h ?e ?q); (case h => walk_at "sqt"); (case e => rfl))
  | with_reducible refine R.din_ ?_ | with_reducible refine R.dput_ ?_
  | with_reducible refine R.dget2_ ?_ | ((with_reducible refine R.aug_ (x := ?x) ?h ?q); case h => rfl) | with_reducible refine R.ipI_ ?_
  | with_reducible refine R.rng2 ?_ | ((with_reducible refine R.rngE2 ?h ?q); (case h => (refine ⟨?_, ?_, ?_, ?_⟩ <;> omega)))
  | with_reducible refine R.brk ?_ | with_reducible refine R.intB ?_ | with_reducible refine R.meth_ ?_ | ((refine KN.methS (rs := ?rs) (ms := ?ms) ?h (fun _ _ _ _ => rfl) ?q); case h => walk_at "sys")
  | with_reducible refine R.sl_ ?_ | with_reducible refine R.np_ ?_ | with_reducible refine R.pt_ ?_ | with_reducible refine R.ptE ?_ | with_reducible refine R.dget_ ?_ | with_reducible refine R.revL_ ?_
  | ((refine R.dgetS (kvs := ?kvs) (v := ?v) ?h ?e ?q); (case h => walk_at "at"); (case e => walk_at "dk"))
  | with_reducible refine R.sfld ?_ | with_reducible refine R.fld_ ?_ | with_reducible refine R.dc ?_
  | with_reducible refine R.dget1_ ?_
  | with_reducible refine R.itseq ?_ | with_reducible refine R.itenum ?_
  | with_reducible refine R.itT ?_ | with_reducible refine R.itF ?_ | with_reducible refine R.itNT ?_ | with_reducible refine R.itNF ?_
  | (with_reducible refine R.tup ?_) | (with_reducible refine R.lst ?_))
local macro_rules | `(tactic| walk_at "rd") => `(tactic| (repeat (first | walk_at "r1" | (dsimp only [Int.reduceToNat, List.set_cons_succ, List.set_cons_zero, List.length_cons, List.length_nil, List.nil_append, List.cons_append, List.append_nil]))))
local macro_rules | `(tactic| walk_at "go") => `(tactic| (rw [R.start_eq]; dsimp only [R.startE, List.map_nil]; walk_at "rd"))
namespace KN
open PySem L2 SX R
open C8 (Cal Def cal0 pe_c pe_gc fnScope fnBody pss_cut Met pe_mt pe_mt0)
section
variable {P : Program} {w : World} {K : PySem.W.Frag} {mg : Str → Option Value} {base : Heap}
abbrev sRup : Stmt := top 2
theorem scRup : FnScope ["system", "last", "word", "value", "most", "unsaid", "rest"] ["system", "last"] (fnScope sRup) := ⟨rfl, rfl, rfl, by decide +kernel, rfl, by decide +kernel, by decide +kernel⟩
def rowU (last : Int) (m : MR) : List V := [.str m.w, .int m.v, .int (m.c.getD last), .bl m.u, .int m.r]
def spRup (S : Addr) : Sp := fun vs H Q _ => ∃ (x : Addr) (rs : List SR) (ms : List MR) (last : Int), vs = [.ref x, .int last] ∧ SysAt S H x rs ms ∧ ms.length ≤ 6 ∧
  ∀ (H' : Hp) (D : Addr) (acc : List V), Same H H' → H D = none → H' D = some (.lst acc) → TupsAt H' acc (ms.map (rowU last)) → Q (.ref D) H'
theorem c_rows_up_to {S : Addr} (Z : Zs mg) (TS : SysK K S) {f : Addr} {fd : FuncData} (F : Def K mg "rows_up_to" sRup f fd) (b : Binds K fd ["system", "last"] []) : Cal P w K mg base 1 "rows_up_to" (spRup S) [] := by
  refine cal0 F b .nil scRup (fun vs H Q E h => ?_) (fun cdv A outer s H vs Q E hr h => ?_)
  · obtain ⟨x, rs, ms, last, rfl, _⟩ := h
    rfl
  · obtain ⟨x, rs, ms, last, rfl, hX, ml, k⟩ := h
    refine ⟨_, pss_one (ps_ret (pe_lc (own := [("word", 2), ("value", 3), ("most", 4), ("unsaid", 5), ("rest", 6)]) (tt := tYes) rfl scRup.nd (kiT K (kFld K (pv 0))) (blkOk_by (own := [("word", 2), ("value", 3), ("most", 4), ("unsaid", 5), ("rest", 6)]) (N := ["system", "last", "word", "value", "most", "unsaid", "rest"]) (sc := fnScope sRup) (by decide +kernel)) (fun _ _ _ _ _ => (kgTup K (n := 5) rfl (pgs_cons (pg_name (i := 2) scRup.nd rfl (Or.inl rfl)) (pgs_cons (pg_name (i := 3) scRup.nd rfl (Or.inl rfl)) (pgs_cons (pg_name (i := 4) scRup.nd rfl (Or.inl rfl)) (pgs_cons (pg_name (i := 5) scRup.nd rfl (Or.inl rfl)) (pgs_cons (pg_name (i := 6) scRup.nd rfl (Or.inl rfl)) pgs_nil))))))) (fun _ _ _ _ _ => pts_nil) (fun _ _ _ _ _ => pe_tup (pa_cons (pv 2) (pa_cons (pv 3) (pa_cons (pe_ifExp (pt_cmpR oIs (pv 4) pe_non (nomark _)) (pv 1) (pv 4)) (pa_cons (pv 5) (pa_cons (pv 6) pa_nil)))))))), ?_⟩
    obtain ⟨dx, s, m, v, r, xs, ys, hx, hs, hts, hm, htm, hv, hrr⟩ := id hX
    have ly : ys.length = ms.length := by have := htm.len; rwa [List.length_map] at this
    walk_at "go"
    refine R.fldE hx TS.cl TS.nM rfl ?_
    walk_at "rd"
    intro D hD
    refine lc_it (walk_tup (K := K) (a := m) (xs := ys)) (fun i H' => Same H H' ∧ ∃ acc, H' D = some (.lst acc) ∧ TupsAt H' acc ((ms.take i).map (rowU last))) ⟨same_new (Same.refl _) hD, [], upd_same, .nil⟩ (fun i H' _ hh => SqT.of (hh.1 _ _ hm)) ?_ ?_
    · rintro i u H3 H3' hi ⟨s3, acc, h3, h4⟩ ⟨rfl, hu⟩
      have hri : ms[i]? = some ms[i] := List.getElem?_eq_getElem (by omega)
      obtain ⟨b, hya, hb⟩ := htm.get i (mrV ms[i]) (by rw [List.getElem?_map, hri]; rfl)
      rw [hya] at hu
      cases hu
      have et : ms.take (i + 1) = ms.take i ++ [ms[i]] := by rw [List.take_add_one, hri]; rfl
      have acl : acc.length ≤ 6 := by have := h4.len; rw [List.length_map, List.length_take] at this; omega
      rw [et, List.map_append]
      generalize ms[i] = mm at *
      obtain ⟨mw, mv, mc, mu, mr⟩ := mm
      have hb2 : H3' b = some (.tup [.str mw, .int mv, ocnt mc, .bl mu, .int mr]) := s3 _ _ hb
      refine R.gtup (SqT.of hb2) rfl ?_
      refine R.gcons ?_
      refine R.gname ?_
      refine R.gcons ?_
      refine R.gname ?_
      refine R.gcons ?_
      refine R.gname ?_
      refine R.gcons ?_
      refine R.gname ?_
      refine R.gcons ?_
      refine R.gname ?_
      refine R.gnil ⟨rfl, ?_⟩
      have fin : ∀ (G : Hp) (a : Addr), Same H3' G → G a = some (.tup (rowU last ⟨mw, mv, mc, mu, mr⟩)) → ∃ acc', G D = some (.lst acc') ∧ acc'.length < sizeLine ∧ Same H (upd G D (.lst (acc' ++ [.ref a]))) ∧ ∃ acc'', upd G D (.lst (acc' ++ [.ref a])) D = some (.lst acc'') ∧ TupsAt (upd G D (.lst (acc' ++ [.ref a]))) acc'' ((ms.take i).map (rowU last) ++ [(⟨mw, mv, mc, mu, mr⟩ : MR)].map (rowU last)) := by
        intro G a g hG
        have h3' := g _ _ h3
        exact ⟨acc, h3', small1000 (by omega), same_put (s3.trans g) hD, _, upd_same, ((h4.keep (fun a d h => g _ _ h)).keep (keep_list h3')).snoc (keep_list h3' _ _ hG)⟩
      walk_at "rd"
      cases mc with
      | none =>
        refine itY rfl ?_
        walk_at "rd"
        refine ⟨by decide, fun a ha => R.gen ha fun H4 s4 h44 => ?_⟩
        exact fin H4 a s4 h44
      | some c =>
        refine itN (fun q => nomatch (show V.int c = V.non from q)) ?_
        rw [show ocnt (some c) = V.int c from rfl]
        walk_at "rd"
        refine ⟨by decide, fun a ha => R.gen ha fun H4 s4 h44 => ?_⟩
        exact fin H4 a s4 h44
    · rintro H3 ⟨s3, acc, h3, h4⟩
      rw [ly, List.take_of_length_le (Nat.le_refl _)] at h4
      exact k H3 D acc s3 hD h3 h4
end
end KN
end
section
set_option Elab.async false
set_option linter.all false
set_option maxRecDepth 100000
set_option maxHeartbeats 4000000
set_option pp.maxSteps 1500
set_option pp.deepTerms false
local macro_rules | `(tactic| walk_at "ne") => `(tactic| first
  | assumption | (apply Ne.symm; assumption)
  | exact R.ne_new (by assumption) | exact (R.ne_new (by assumption)).symm
  | exact L2.ne_of_none (by assumption) (by assumption) | exact (L2.ne_of_none (by assumption) (by assumption)).symm
  | exact L2.ne_of_none (by assumption) (R.free_new (by assumption)) | exact (L2.ne_of_none (by assumption) (R.free_new (by assumption))).symm)
local macro_rules | `(tactic| walk_at "at") => `(tactic| first
  | assumption | exact L2.upd_same
  | (refine R.sb (H := ?H) (p := ?p) ?e ?n ?h; (case e => assumption); (case n => walk_at "ne"); (case h => walk_at "at"))
  | (refine R.sm (H := ?H) ?e ?h; (case e => assumption); (case h => walk_at "at"))
  | (refine Eq.trans (L2.upd_ne ?_) ?_ <;> first | walk_at "ne" | walk_at "at"))
local macro_rules | `(tactic| walk_at "sqt") => `(tactic| first | assumption | (refine L2.SqT.of ?_; walk_at "at"))
local macro_rules | `(tactic| walk_at "ty") => `(tactic| first | exact R.tyN | exact R.tyB | exact R.tyI | exact R.tyS | (refine R.tyT (xs := ?xs) ?h; case h => walk_at "at") | (refine R.tyL (xs := ?xs) ?h; case h => walk_at "at"))
local macro_rules | `(tactic| walk_at "kit") => `(tactic| first | exact R.kit_NoneType_tuple | exact R.kit_NoneType_list | exact R.kit_NoneType_bool | exact R.kit_NoneType_str | exact R.kit_NoneType_int | exact R.kit_bool_tuple | exact R.kit_bool_list | exact R.kit_bool_bool | exact R.kit_bool_str | exact R.kit_bool_int | exact R.kit_int_tuple | exact R.kit_int_list | exact R.kit_int_bool | exact R.kit_int_str | exact R.kit_int_int | exact R.kit_str_tuple | exact R.kit_str_list | exact R.kit_str_bool | exact R.kit_str_str | exact R.kit_str_int | exact R.kit_tuple_tuple | exact R.kit_tuple_list | exact R.kit_tuple_bool | exact R.kit_tuple_str | exact R.kit_tuple_int | exact R.kit_list_tuple | exact R.kit_list_list | exact R.kit_list_bool | exact R.kit_list_str | exact R.kit_list_int)
local macro_rules | `(tactic| walk_at "sz") => `(tactic| first | assumption | (refine Nat.le_trans ?_ (show 1000 ≤ PySem.sizeLine by decide); omega) | decide)
local macro_rules | `(tactic| walk_at "szl") => `(tactic| first | assumption | exact Nat.le_of_lt (L2.small1000 (by omega)) | decide | decide +kernel)
local macro_rules | `(tactic| walk_at "sys") => `(tactic| first | assumption | exact KN.SysAt.same (by assumption) (by assumption))
local macro_rules | `(tactic| walk_at "dk") => `(tactic| first | exact R.rowsS _ _ | exact R.rowsM _ _)
local macro_rules | `(tactic| walk_at "sqa") => `(tactic| first | assumption | exact R.SeqA.same (by assumption) (by assumption) | exact R.SeqA.new (by assumption) (by assumption) | (exact Or.inl (by walk_at "at")) | (exact Or.inr (by walk_at "at")))
local macro_rules | `(tactic| walk_at "ix") => `(tactic| first | rfl | (exact L2.atI_nat (by assumption)) | assumption)
local macro_rules | `(tactic| walk_at "cond") => `(tactic| first
  | exact Or.inl (by decide) | exact Or.inr (by decide) | exact Or.inl ⟨by omega, by omega⟩ | exact Or.inr ⟨by omega, by omega⟩
  | (constructor <;> omega) | (show _ ≠ _; omega) | decide | omega)
local macro_rules | `(tactic| walk_at "r1") => `(tactic| first
  | with_reducible refine R.seq ?_ | with_reducible refine R.asg ?_ | with_reducible refine R.ifs ?_ | with_reducible refine R.ret ?_ | with_reducible refine R.retN ?_ | with_reducible refine R.drop ?_ | with_reducible refine R.next ?_
  | with_reducible refine R.op ?_ | ((with_reducible refine R.var (v := ?v) ?h ?q); case h => rfl) | with_reducible refine R.c ?_ | with_reducible refine R.tst ?_ | with_reducible refine R.tb_ ?_ | with_reducible refine R.ex ?_
  | with_reducible refine R.i0 ?_ | with_reducible refine R.eqI ?_ | with_reducible refine R.neI ?_ | ((with_reducible refine R.ic ?_ ?_); · walk_at "cond") | with_reducible refine R.u0 ?_ | with_reducible refine R.un ?_
  | ((with_reducible refine R.eq ?_ ?_); · rfl) | ((with_reducible refine R.ne ?_ ?_); · rfl)
  | with_reducible refine R.and_ ?_ | with_reducible refine R.or_ ?_ | with_reducible refine R.not_ ?_ | with_reducible refine R.ife ?_ | with_reducible refine R.chain ?_
  | with_reducible refine R.cons ?_ | with_reducible refine R.nil ?_ | with_reducible refine R.call ?_ | with_reducible refine R.cb ?_ | with_reducible refine R.bm ?_
  | with_reducible refine R.gname ?_ | with_reducible refine R.gsub ?_ | with_reducible refine R.gnil ?_ | with_reducible refine R.gcons ?_ | with_reducible refine R.yes ?_
  | with_reducible refine R.int1 ?_ | ((with_reducible refine R.lenL (xs := ?xs) ?h ?q); case h => walk_at "at")
  | ((with_reducible refine R.ixL (xs := ?xs) (v := ?v) ?h ?e ?q); (case h => walk_at "at"); (case e => walk_at "ix"))
  | ((with_reducible refine R.setL (xs := ?xs) (n := ?n) ?h ?e ?q); (case h => walk_at "at"); (case e => rfl))
  | ((with_reducible refine R.append (xs := ?xs) ?h ?e ?q); (case h => walk_at "at"); (case e => walk_at "cond"))
  | with_reducible refine R.is_ ?_ | with_reducible refine R.isnot ?_ | with_reducible refine R.andV ?_ | with_reducible refine R.orV ?_ | with_reducible refine R.notV ?_
  | ((with_reducible refine R.isi (s := ?s) (b := ?b) ?ty ?h ?q); (case ty => walk_at "ty"); (case h => walk_at "kit"))
  | ((with_reducible refine R.addS ?h ?q); (case h => walk_at "sz")) | with_reducible refine R.max2 ?_ | with_reducible refine R.min2 ?_
  | ((with_reducible refine R.lenStr ?h ?q); (case h => walk_at "szl")) | ((with_reducible refine R.ixS (n := ?n) ?h ?e ?q); (case h => walk_at "szl"); (case e => walk_at "ix"))
  | ((with_reducible refine R.tyl (xs := ?xs) ?h ?q); (case h => walk_at "at")) | with_reducible refine R.itlist ?_ | with_reducible refine R.ittup ?_ | with_reducible refine R.m1 ?_ | with_reducible refine R.m1s ?_ | with_reducible refine R.leS ?_ | with_reducible refine R.itstr ?_ | with_reducible refine R.itstrE ?_ | with_reducible refine R.lc ?_ | with_reducible refine R.lc2 ?_ | with_reducible refine R.ckw ?_ | with_reducible refine R.par ?_ | with_reducible refine R.parE ?_ | with_reducible refine R.itrev ?_ | with_reducible refine R.dsetd ?_ | with_reducible refine R.dnotin_ ?_ | with_reducible refine R.for_ ?_ | ((with_reducible refine R.all_ (bs := ?bs) ?h ?q); (case h => walk_at "at"))
  | with_reducible refine R.rng1 ?_ | ((with_reducible refine R.rngE ?h ?q); (case h => (constructor <;> omega)))
  | ((with_reducible refine R.lenT (xs := ?xs) ?h ?q); (case h => walk_at "sqt")) | ((with_reducible refine R.ixT (xs := ?xs) (v := ?v) ?h ?e ?q); (case h => walk_at "sqt"); (case e => walk_at "ix"))
  | ((refine R.itlE (xs := ?xs) ?h ?q); (case h => walk_at "at")) | ((refine R.ittE (xs := ?xs) ?h ?q); (case h => walk_at "at"))
  | ((refine R.gseq (xs := ?xs) ?h ?e ?q); (case h => walk_at "sqa"); (case e => rfl)) | ((refine R.ixA (xs := ?xs) (v := ?v) ?h ?e ?q); (case h => walk_at "sqa"); (case e => walk_at "ix")) | ((refine R.lenA (xs := ?xs) ?h ?q); (case h => walk_at "sqa"))
  | ((with_reducible refine R.gtup (xs := ?xs) ?h ?e ?q); (case h => walk_at "sqt"); (case e => rfl))
  | with_reducible refine R.din_ ?_ | with_reducible refine R.dput_ ?_
  | with_reducible refine R.dget2_ ?_ | ((with_reducible refine R.aug_ (x := ?x) ?h ?q); case h => rfl) | with_reducible refine R.ipI_ ?_
  | with_reducible refine R.rng2 ?_ | ((with_reducible refine R.rngE2 ?h ?q); (case h => (refine ⟨?_, ?_, ?_, ?_⟩ <;> omega)))
  | with_reducible refine R.brk ?_ | with_reducible refine R.intB ?_ | with_reducible refine R.meth_ ?_ | ((refine KN.methS (rs := ?rs) (ms := ?ms) ?h (fun _ _ _ _ => rfl) ?q); case h => walk_at "sys")
  | with_reducible refine R.sl_ ?_ | with_reducible refine R.np_ ?_ | with_reducible refine R.pt_ ?_ | with_reducible refine R.ptE ?_ | with_reducible refine R.dget_ ?_ | with_reducible refine R.revL_ ?_
  | ((refine R.dgetS (kvs := ?kvs) (v := ?v) ?h ?e ?q); (case h => walk_at "at"); (case e => walk_at "dk"))
  | with_reducible refine R.sfld ?_ | with_reducible refine R.fld_ ?_ | with_reducible refine R.dc ?_
  | with_reducible refine R.dget1_ ?_
  | with_reducible refine R.itseq ?_ | with_reducible refine R.itenum ?_
  | with_reducible refine R.itT ?_ | with_reducible refine R.itF ?_ | with_reducible refine R.itNT ?_ | with_reducible refine R.itNF ?_
  | (with_reducible refine R.tup ?_) | (with_reducible refine R.lst ?_))
local macro_rules | `(tactic| walk_at "rd") => `(tactic| (repeat (first | walk_at "r1" | (dsimp only [Int.reduceToNat, List.set_cons_succ, List.set_cons_zero, List.length_cons, List.length_nil, List.nil_append, List.cons_append, List.append_nil]))))
local macro_rules | `(tactic| walk_at "go") => `(tactic| (rw [R.start_eq]; dsimp only [R.startE, List.map_nil]; walk_at "rd"))
namespace R
open PySem L2 SX C8
section
variable {X : Cx} (K : PySem.W.Frag)
theorem kSlA (h : X.K = K := by rfl) : SlR X (rSlA K) := h ▸ sl_tupA
theorem kInD (hu : X.A.units + 65 < cLine) (h : X.K = K := by rfl) : OpR X (compareOp .In) (rInD K) := h ▸ op_inD hu
/-- a value's truth as a test -/
def tTr (K : PySem.W.Frag) (ta : TE) : TT := fun σ H Q => ta σ H fun x H' => ∃ k, TruV K x H' k ∧ Q k H'
theorem kTr {a : Expr} {ta : TE} (ha : PE X a ta) (he : ∀ whole, isTrue a X.env whole = (do let v ← whole; standAt a.pos; holding [v] (truthy v))) (h : X.K = K := by rfl) : PT X a (tTr K ta) := h ▸ pt_truth ha he
theorem kIndex (h : X.K = K := by rfl) : MtR X "list.index" (rIndex K) := h ▸ mt_index
end
section
variable {σ : L2.St} {H : Hp} {te to : TE} {Q : VK} {K : PySem.W.Frag} {xs : List V} {a : Addr}
theorem slTA {lo hi : Option Int} (h : H a = some (.tup xs)) (q : ∀ p H', Same H H' → H' p = some (.tup (cutV xs lo hi)) → Q (.ref p) H') : rSlA K (.ref a) lo hi H Q := by
  refine ⟨a, xs, rfl, SqT.of h, fun w => q a H (Same.refl H) ?_, fun _ p hp => q p _ (same_new (Same.refl H) hp) upd_same⟩
  rw [h]
  unfold cutV
  rw [w.1, w.2]
  simp
theorem tr_ {QB : Bool → Hp → Prop} (q : te σ H fun x H' => ∃ k, TruV K x H' k ∧ QB k H') : tTr K te σ H QB := q
theorem truT' {QB : Bool → Prop} (h : H a = some (.tup xs)) (q : QB (!xs.isEmpty)) : ∃ k, TruV K (.ref a) H k ∧ QB k := ⟨_, .inr (.inl ⟨xs, SqT.of h, rfl⟩), q⟩
theorem callN {n m : Nat} {sp : Sp} {gV : List V → List V → List V} {E : XK} {t tk : TA} (q : t σ H fun vs H1 => tk σ H1 fun zs H2 => vs.length = n ∧ zs.length = m ∧ sp (gV vs zs) H2 Q E) : tCallN n m sp gV E t tk σ H Q := q
theorem rng3 {ar : TA} {R : It → Hp → Prop} (q : ar σ H fun vs H1 => ∃ (i j c : Int) (n : Nat), vs = [.int i, .int j, .int c] ∧ RgC i j c n ∧ R (Itc i c n) H1) : iRng3 ar σ H R := q
theorem rng3d {i j : Int} {P : Int → Int → Nat → Prop} (ha : -(2 ^ 62) ≤ i) (ha' : i < 2 ^ 62) (hb : -(2 ^ 62) ≤ j) (hb' : j < 2 ^ 62) (q : P i (-1) (i - j).toNat) : ∃ (i' j' c : Int) (n : Nat), [V.int i, .int j, .int (-1)] = [.int i', .int j', .int c] ∧ RgC i' j' c n ∧ P i' c n :=
  ⟨i, j, -1, _, rfl, RgC.neg ha ha' hb hb', q⟩
theorem bits (q : to σ H fun x H1 => ∃ i, x = .int i ∧ Q (.int (Builtin.Int.intBits i : Nat)) H1) : tBits to σ H Q := q
theorem hu65 {A : Around} {k : Nat} (hr : Room k A) : A.units + 65 < cLine := by have := hr.un; omega
theorem tupA' {Q : VK} (h : SeqA H a xs) (q : ∀ t H', Same H H' → H' t = some (.tup xs) → Q (.ref t) H') : rTupS K [.ref a] H Q := tupA h (fun l hl => q l _ (same_new (Same.refl H) hl) upd_same) (fun e => q a H (Same.refl H) e)
theorem dnewT (q : ∀ p, H p = none → Q (.ref p) (upd H p (.dT []))) : tDNewT σ H Q := q
end
end R
end
section
set_option Elab.async false
set_option linter.all false
set_option maxRecDepth 100000
set_option maxHeartbeats 4000000
set_option pp.maxSteps 1500
set_option pp.deepTerms false
local macro_rules | `(tactic| walk_at "ne") => `(tactic| first
  | assumption | (apply Ne.symm; assumption)
  | exact R.ne_new (by assumption) | exact (R.ne_new (by assumption)).symm
  | exact L2.ne_of_none (by assumption) (by assumption) | exact (L2.ne_of_none (by assumption) (by assumption)).symm
  | exact L2.ne_of_none (by assumption) (R.free_new (by assumption)) | exact (L2.ne_of_none (by assumption) (R.free_new (by assumption))).symm)
local macro_rules | `(tactic| walk_at "at") => `(tactic| first
  | assumption | exact L2.upd_same
  | (refine R.sb (H := ?H) (p := ?p) ?e ?n ?h; (case e => assumption); (case n => walk_at "ne"); (case h => walk_at "at"))
  | (refine R.sm (H := ?H) ?e ?h; (case e => assumption); (case h => walk_at "at"))
  | (refine Eq.trans (L2.upd_ne ?_) ?_ <;> first | walk_at "ne" | walk_at "at"))
local macro_rules | `(tactic| walk_at "sqt") => `(tactic| first | assumption | (refine L2.SqT.of ?_; walk_at "at"))
local macro_rules | `(tactic| walk_at "ty") => `(tactic| first | exact R.tyN | exact R.tyB | exact R.tyI | exact R.tyS | (refine R.tyT (xs := ?xs) ?h; case h => walk_at "at") | (refine R.tyL (xs := ?xs) ?h; case h => walk_at "at"))
local macro_rules | `(tactic| walk_at "kit") => `(tactic| first | exact R.kit_NoneType_tuple | exact R.kit_NoneType_list | exact R.kit_NoneType_bool | exact R.kit_NoneType_str | exact R.kit_NoneType_int | exact R.kit_bool_tuple | exact R.kit_bool_list | exact R.kit_bool_bool | exact R.kit_bool_str | exact R.kit_bool_int | exact R.kit_int_tuple | exact R.kit_int_list | exact R.kit_int_bool | exact R.kit_int_str | exact R.kit_int_int | exact R.kit_str_tuple | exact R.kit_str_list | exact R.kit_str_bool | exact R.kit_str_str | exact R.kit_str_int | exact R.kit_tuple_tuple | exact R.kit_tuple_list | exact R.kit_tuple_bool | exact R.kit_tuple_str | exact R.kit_tuple_int | exact R.kit_list_tuple | exact R.kit_list_list | exact R.kit_list_bool | exact R.kit_list_str | exact R.kit_list_int)
local macro_rules | `(tactic| walk_at "sz") => `(tactic| first | assumption | (refine Nat.le_trans ?_ (show 1000 ≤ PySem.sizeLine by decide); omega) | decide)
local macro_rules | `(tactic| walk_at "szl") => `(tactic| first | assumption | exact Nat.le_of_lt (L2.small1000 (by omega)) | decide | decide +kernel)
local macro_rules | `(tactic| walk_at "sys") => `(tactic| first | assumption | exact KN.SysAt.same (by assumption) (by assumption))
local macro_rules | `(tactic| walk_at "dk") => `(tactic| first | exact R.rowsS _ _ | exact R.rowsM _ _)
local macro_rules | `(tactic| walk_at "sqa") => `(tactic| first | assumption | exact R.SeqA.same (by assumption) (by assumption) | exact R.SeqA.new (by assumption) (by assumption) | (exact Or.inl (by walk_at "at")) | (exact Or.inr (by walk_at "at")))
local macro_rules | `(tactic| walk_at "ix") => `(tactic| first | rfl | (exact L2.atI_nat (by assumption)) | assumption)
local macro_rules | `(tactic| walk_at "cond") => `(tactic| first
  | exact Or.inl (by decide) | exact Or.inr (by decide) | exact Or.inl ⟨by omega, by omega⟩ | exact Or.inr ⟨by omega, by omega⟩
  | (constructor <;> omega) | (show _ ≠ _; omega) | decide | omega)
local macro_rules | `(tactic| walk_at "r1") => `(tactic| first
  | with_reducible refine R.seq ?_ | with_reducible refine R.asg ?_ | with_reducible refine R.ifs ?_ | with_reducible refine R.ret ?_ | with_reducible refine R.retN ?_ | with_reducible refine R.drop ?_ | with_reducible refine R.next ?_
  | with_reducible refine R.op ?_ | ((with_reducible refine R.var (v := ?v) ?h ?q); case h => rfl) | with_reducible refine R.c ?_ | with_reducible refine R.tst ?_ | with_reducible refine R.tb_ ?_ | with_reducible refine R.ex ?_
  | with_reducible refine R.i0 ?_ | with_reducible refine R.eqI ?_ | with_reducible refine R.neI ?_ | ((with_reducible refine R.ic ?_ ?_); · walk_at "cond") | with_reducible refine R.u0 ?_ | with_reducible refine R.un ?_
  | ((with_reducible refine R.eq ?_ ?_); · rfl) | ((with_reducible refine R.ne ?_ ?_); · rfl)
  | with_reducible refine R.and_ ?_ | with_reducible refine R.or_ ?_ | with_reducible refine R.not_ ?_ | with_reducible refine R.ife ?_ | with_reducible refine R.chain ?_
  | with_reducible refine R.cons ?_ | with_reducible refine R.nil ?_ | with_reducible refine R.call ?_ | with_reducible refine R.cb ?_ | with_reducible refine R.bm ?_
  | with_reducible refine R.gname ?_ | with_reducible refine R.gsub ?_ | with_reducible refine R.gnil ?_ | with_reducible refine R.gcons ?_ | with_reducible refine R.yes ?_
  | with_reducible refine R.int1 ?_ | ((with_reducible refine R.lenL (xs := ?xs) ?h ?q); case h => walk_at "at")
  | ((with_reducible refine R.ixL (xs := ?xs) (v := ?v) ?h ?e ?q); (case h => walk_at "at"); (case e => walk_at "ix"))
  | ((with_reducible refine R.setL (xs := ?xs) (n := ?n) ?h ?e ?q); (case h => walk_at "at"); (case e => rfl))
  | ((with_reducible refine R.append (xs := ?xs) ?h ?e ?q); (case h => walk_at "at"); (case e => walk_at "cond"))
  | with_reducible refine R.is_ ?_ | with_reducible refine R.isnot ?_ | with_reducible refine R.andV ?_ | with_reducible refine R.orV ?_ | with_reducible refine R.notV ?_
  | ((with_reducible refine R.isi (s := ?s) (b := ?b) ?ty ?h ?q); (case ty => walk_at "ty"); (case h => walk_at "kit"))
  | ((with_reducible refine R.addS ?h ?q); (case h => walk_at "sz")) | with_reducible refine R.max2 ?_ | with_reducible refine R.min2 ?_
  | ((with_reducible refine R.lenStr ?h ?q); (case h => walk_at "szl")) | ((with_reducible refine R.ixS (n := ?n) ?h ?e ?q); (case h => walk_at "szl"); (case e => walk_at "ix"))
  | ((with_reducible refine R.tyl (xs := ?xs) ?h ?q); (case h => walk_at "at")) | with_reducible refine R.itlist ?_ | with_reducible refine R.ittup ?_ | with_reducible refine R.m1 ?_ | with_reducible refine R.m1s ?_ | with_reducible refine R.leS ?_ | with_reducible refine R.itstr ?_ | with_reducible refine R.itstrE ?_ | with_reducible refine R.lc ?_ | with_reducible refine R.lc2 ?_ | with_reducible refine R.ckw ?_ | with_reducible refine R.par ?_ | with_reducible refine R.parE ?_ | with_reducible refine R.itrev ?_ | with_reducible refine R.dsetd ?_ | with_reducible refine R.dnotin_ ?_ | with_reducible refine R.for_ ?_ | ((with_reducible refine R.all_ (bs := ?bs) ?h ?q); (case h => walk_at "at"))
  | with_reducible refine R.rng1 ?_ | ((with_reducible refine R.rngE ?h ?q); (case h => (constructor <;> omega)))
  | ((with_reducible refine R.lenT (xs := ?xs) ?h ?q); (case h => walk_at "sqt")) | ((with_reducible refine R.ixT (xs := ?xs) (v := ?v) ?h ?e ?q); (case h => walk_at "sqt"); (case e => walk_at "ix"))
  | ((refine R.itlE (xs := ?xs) ?h ?q); (case h => walk_at "at")) | ((refine R.ittE (xs := ?xs) ?h ?q); (case h => walk_at "at"))
  | ((refine R.gseq (xs := ?xs) ?h ?e ?q); (case h => walk_at "sqa"); (case e => rfl)) | ((refine R.ixA (xs := ?xs) (v := ?v) ?h ?e ?q); (case h => walk_at "sqa"); (case e => walk_at "ix")) | ((refine R.lenA (xs := ?xs) ?h ?q); (case h => walk_at "sqa"))
  | ((with_reducible refine R.gtup (xs := ?xs) ?h ?e ?q); (case h => walk_at "sqt"); (case e => rfl))
  | with_reducible refine R.din_ ?_ | with_reducible refine R.dput_ ?_
  | with_reducible refine R.dget2_ ?_ | ((with_reducible refine R.aug_ (x := ?x) ?h ?q); case h => rfl) | with_reducible refine R.ipI_ ?_
  | with_reducible refine R.rng2 ?_ | ((with_reducible refine R.rngE2 ?h ?q); (case h => (refine ⟨?_, ?_, ?_, ?_⟩ <;> omega)))
  | with_reducible refine R.brk ?_ | with_reducible refine R.intB ?_ | with_reducible refine R.meth_ ?_ | ((refine KN.methS (rs := ?rs) (ms := ?ms) ?h (fun _ _ _ _ => rfl) ?q); case h => walk_at "sys")
  | with_reducible refine R.sl_ ?_ | with_reducible refine R.np_ ?_ | with_reducible refine R.pt_ ?_ | with_reducible refine R.ptE ?_ | with_reducible refine R.dget_ ?_ | with_reducible refine R.revL_ ?_
  | ((refine R.dgetS (kvs := ?kvs) (v := ?v) ?h ?e ?q); (case h => walk_at "at"); (case e => walk_at "dk"))
  | with_reducible refine R.sfld ?_ | with_reducible refine R.fld_ ?_ | with_reducible refine R.dc ?_
  | with_reducible refine R.dget1_ ?_
  | with_reducible refine R.itseq ?_ | with_reducible refine R.itenum ?_
  | with_reducible refine R.itT ?_ | with_reducible refine R.itF ?_ | with_reducible refine R.itNT ?_ | with_reducible refine R.itNF ?_
  | (with_reducible refine R.tup ?_) | (with_reducible refine R.lst ?_))
local macro_rules | `(tactic| walk_at "rd") => `(tactic| (repeat (first | walk_at "r1" | (dsimp only [Int.reduceToNat, List.set_cons_succ, List.set_cons_zero, List.length_cons, List.length_nil, List.nil_append, List.cons_append, List.append_nil]))))
local macro_rules | `(tactic| walk_at "go") => `(tactic| (rw [R.start_eq]; dsimp only [R.startE, List.map_nil]; walk_at "rd"))
local macro_rules | `(tactic| walk_at "r1") => `(tactic| first | with_reducible refine R.callN ?_ | with_reducible refine R.tr_ ?_ | with_reducible refine R.rng3 ?_ | with_reducible refine R.bits ?_ | with_reducible refine R.dnewT ?_)
-- RTX
namespace KN
open PySem L2 SX R
open C8 (Cal Def cal0 pe_c pe_gc fnScope fnBody pss_cut Met met0 pe_mt pe_mt0)
section
variable {P : Program} {w : World} {K : PySem.W.Frag} {mg : Str → Option Value} {base : Heap}
abbrev sFwith : Stmt := top 3
theorem scFwith : FnScope ["rows", "found", "number", "own", "value", "most", "unsaid", "greatest_rest", "count", "rest", "ahead", "behind"] ["rows", "found", "number"] (fnScope sFwith) := ⟨rfl, rfl, rfl, by decide +kernel, rfl, by decide +kernel, by decide +kernel⟩
abbrev sSut : Stmt := top 4
theorem scSut : FnScope ["system", "last", "counted", "names", "word", "value", "rows", "found", "number", "many", "row"] ["system", "last", "counted"] (fnScope sSut) := ⟨rfl, rfl, rfl, by decide +kernel, rfl, by decide +kernel, by decide +kernel⟩
def rowW (cs : List Str) (last : Int) (m : MR) : List V := [.int (ownW cs m.w : Nat), .int m.v, .int (m.c.getD last), .bl m.u, .int m.r]
def foundL (rs : List SR) (ms : List MR) (cs : List Str) (n : Nat) : List V := (List.range n).map fun k => oV (WN rs ms cs k)
theorem foundL_at {rs : List SR} {ms : List MR} {cs : List Str} {n k : Nat} (h : k < n) : (foundL rs ms cs n)[k]? = some (oV (WN rs ms cs k)) := by
  unfold foundL
  rw [List.getElem?_map, List.getElem?_range h]
  rfl
theorem foundL_len (rs : List SR) (ms : List MR) (cs : List Str) (n : Nat) : (foundL rs ms cs n).length = n := by unfold foundL; rw [List.length_map, List.length_range]
theorem foundL_snoc (rs : List SR) (ms : List MR) (cs : List Str) (n : Nat) : foundL rs ms cs (n + 1) = foundL rs ms cs n ++ [oV (WN rs ms cs n)] := by
  unfold foundL
  rw [List.range_succ, List.map_append]
  rfl
def spFwith : Sp := fun vs H Q _ => ∃ (ra fa : Addr) (acc : List V) (n last : Int) (rs : List SR) (ms : List MR) (cs : List Str), vs = [.ref ra, .ref fa, .int n] ∧ H ra = some (.lst acc) ∧ TupsAt H acc (ms.map (rowW cs last)) ∧ H fa = some (.lst (foundL rs ms cs n.toNat)) ∧ GoodSys rs ms ∧ 1 ≤ n ∧ n ≤ last ∧ last ≤ 200000 ∧
  ∀ H', Same H H' → Q (oV (fwW rs ms cs (splF ms n))) H'
theorem c_first_with (Z : Zs mg) {f : Addr} {fd : FuncData} (F : Def K mg "first_with" sFwith f fd) (b : Binds K fd ["rows", "found", "number"] []) : Cal P w K mg base 1 "first_with" spFwith [] := by
  refine cal0 F b .nil scFwith (fun vs H Q E h => ?_) (fun cdv A outer s H vs Q E hr h => ?_)
  · obtain ⟨ra, fa, acc, n, last, rs, ms, cs, rfl, _⟩ := h
    rfl
  · obtain ⟨ra, fa, acc, n, last, rs, ms, cs, rfl, hra, hT, hfa, hg, n1, nl, l9, k⟩ := h
    refine ⟨_, pss_cons (ps_for PassesOwn.never rfl (kiL K (pv 0)) (kgTup K (n := 5) rfl (pgs_cons (pg_name (i := 3) scFwith.nd rfl (Or.inl rfl)) (pgs_cons (pg_name (i := 4) scFwith.nd rfl (Or.inl rfl)) (pgs_cons (pg_name (i := 5) scFwith.nd rfl (Or.inl rfl)) (pgs_cons (pg_name (i := 6) scFwith.nd rfl (Or.inl rfl)) (pgs_cons (pg_name (i := 7) scFwith.nd rfl (Or.inl rfl)) pgs_nil))))))
        (pss_cons (ps_asg (pe_callB call_divmod (by rfl) Z.divmod (by decide +kernel) (pa_cons (pv 2) (pa_cons (pv 4) pa_nil))) (kgTup K (n := 2) rfl (pgs_cons (pg_name (i := 8) scFwith.nd rfl (Or.inl rfl)) (pgs_cons (pg_name (i := 9) scFwith.nd rfl (Or.inl rfl)) pgs_nil))))
      (pss_one (ps_if (PW.pt (pw_and (pt_chain op_le op_le pe_int (pv 8) (pv 5)) (pw_and1 (pt_cmpR op_le (pv 9) (pv 7) (nomark _)))))
        (pss_cut (ps_set (i := 10) scFwith.nd rfl (Or.inl rfl) (pe_ix (kIxL K) (pv 1) (pe_ifExp (PW.pt (pw_and (pt_val (pv 6)) (pw_and1 (pt_cmpR op_eq (pv 8) pe_int (nomark _))))) pe_int (pv 8)) (fun _ _ => rfl)))
      (pss_cons (ps_set (i := 11) scFwith.nd rfl (Or.inl rfl) (pe_ix (kIxL K) (pv 1) (pv 9) (fun _ _ => rfl)))
      (pss_one (ps_if (PW.pt (pw_and (pt_cmpR oIsNot (pv 10) pe_non (nomark _)) (pw_and1 (pt_cmpR oIsNot (pv 11) pe_non (nomark _)))))
        (pss_one (ps_ret (pe_op op_add (pe_op op_add (pv 10) (pv 3)) (pv 11))))
        (pss_nil)))))
        (pss_nil)))))
      (pss_one (ps_ret pe_non)), ?_⟩
    have lx := hT.len
    rw [List.length_map] at lx
    walk_at "go"
    refine for_it (walk_list (K := K) (a := ra) (xs := acc)) (fun i σ' H' => ∃ q3 q4 q5 q6 q7 q8 q9 q10 q11, σ' = [some (.ref ra), some (.ref fa), some (.int n), q3, q4, q5, q6, q7, q8, q9, q10, q11] ∧ Same H H' ∧ fwW rs ms cs (splF ms n) = fwW rs ms cs (splF (ms.drop i) n))
      ⟨_, _, _, _, _, _, _, _, _, rfl, Same.refl _, by rw [List.drop_zero]⟩ (fun i σ' H' _ hh => by obtain ⟨_, _, _, _, _, _, _, _, _, _, e, _⟩ := hh; exact SqL.of (e _ _ hra)) ?_ ?_
    · rintro i u σ' H1 H1' hi ⟨q3, q4, q5, q6, q7, q8, q9, q10, q11, rfl, s1, tg⟩ ⟨rfl, hu⟩
      have hri : ms[i]? = some ms[i] := List.getElem?_eq_getElem (by omega)
      obtain ⟨b', hya, hb⟩ := hT.get i (rowW cs last ms[i]) (by rw [List.getElem?_map, hri]; rfl)
      rw [hya] at hu
      cases hu
      have gm := hg.m _ (List.mem_of_getElem? hri)
      rw [List.drop_eq_getElem_cons (show i < ms.length by omega)] at tg
      generalize ms[i] = mm at *
      obtain ⟨mw, mv, mc, mu, mr⟩ := mm
      have lo := gm.lo
      have hi2 := gm.hi
      dsimp only at lo hi2
      have hb1 : H1' b' = some (.tup [.int ((ownW cs mw : Nat) : Int), .int mv, .int (mc.getD last), .bl mu, .int mr]) := s1 _ _ hb
      have hf1 := s1 _ _ hfa
      have sn : okT ⟨mw, mv, mc, mu, mr⟩ n = false → fwW rs ms cs (splF ms n) = fwW rs ms cs (splF (ms.drop (i + 1)) n) := fun h => by
        rw [tg]
        unfold splF
        rw [List.filter_cons, if_neg (by rw [h]; exact Bool.false_ne_true)]
      have sy : okT ⟨mw, mv, mc, mu, mr⟩ n = true → fwW rs ms cs (splF ms n) = (match Wn rs ms cs (if mu = true ∧ n / mv = 1 then 0 else n / mv), Wn rs ms cs (n % mv) with | some a, some b => some (a + ownW cs mw + b) | _, _ => fwW rs ms cs (splF (ms.drop (i + 1)) n)) := fun h => by
        rw [tg]
        conv => lhs; unfold splF
        rw [List.filter_cons, if_pos h, List.map_cons]
        rfl
      have okI := okT_iff (m := ⟨mw, mv, mc, mu, mr⟩) (n := n)
      dsimp only at okI
      have e0 := Int.mul_ediv_add_emod n mv
      have em0 : 0 ≤ n % mv := Int.emod_nonneg _ (by omega)
      have em1 : n % mv < mv := Int.emod_lt_of_pos _ (by omega)
      have d0 : 0 ≤ n / mv := Int.ediv_nonneg (by omega) (by omega)
      have d2 : 2 * (n / mv) ≤ mv * (n / mv) := Int.mul_le_mul_of_nonneg_right lo d0
      have cl : (n / mv ≤ mc.getD last) ↔ cle mc (n / mv) = true := by
        cases mc with
        | none => exact ⟨fun _ => rfl, fun _ => by show n / mv ≤ last; omega⟩
        | some c => exact ⟨fun h => decide_eq_true h, fun h => of_decide_eq_true h⟩
      generalize mc.getD last = MC at *
      refine R.gtup (SqT.of hb1) rfl ?_
      refine R.gcons ?_
      refine R.gname ?_
      refine R.gcons ?_
      refine R.gname ?_
      refine R.gcons ?_
      refine R.gname ?_
      refine R.gcons ?_
      refine R.gname ?_
      refine R.gcons ?_
      refine R.gname ?_
      refine R.gnil ?_
      walk_at "rd"
      refine ⟨n, mv, rfl, ⟨by omega, by omega⟩, fun t ht => R.gen ht fun H2 s2 h2 => ?_⟩
      have s12 := s1.trans s2
      have hf2 := s2 _ _ hf1
      walk_at "rd"

      have nf : ¬ (1 ≤ n / mv ∧ n % mv ≤ mr ∧ cle mc (n / mv) = true) → fwW rs ms cs (splF ms n) = fwW rs ms cs (splF (ms.drop (i + 1)) n) := fun h => sn (by
        cases q : okT ⟨mw, mv, mc, mu, mr⟩ n with
        | false => rfl
        | true => exact absurd (okI.mp q) h)
      have fat : ∀ x : Int, 0 ≤ x → x < n → atI (foundL rs ms cs n.toNat) x = some (oV (Wn rs ms cs x)) := fun x h0 h1 => by
        have := foundL_at (rs := rs) (ms := ms) (cs := cs) (n := n.toNat) (k := x.toNat) (by omega)
        rw [show x = ((x.toNat : Nat) : Int) by omega]
        exact atI_nat this
      refine it (fun a1 => ?_) (fun a1 => by walk_at "rd"; exact ⟨_, _, _, _, _, _, _, _, _, rfl, s12, nf (fun h => a1 h.1)⟩)
      walk_at "rd"
      refine it (fun a2 => ?_) (fun a2 => by walk_at "rd"; exact ⟨_, _, _, _, _, _, _, _, _, rfl, s12, nf (fun h => a2 (cl.mpr h.2.2))⟩)
      walk_at "rd"
      refine it (fun a3 => ?_) (fun a3 => by walk_at "rd"; exact ⟨_, _, _, _, _, _, _, _, _, rfl, s12, nf (fun h => a3 h.2.1)⟩)
      have sy := sy (okI.mpr ⟨a1, a3, cl.mp a2⟩)
      have fa2 := fat (n / mv) d0 (by omega)
      have fb2 := fat (n % mv) em0 (by omega)
      have f02 := fat 0 (by omega) (by omega)
      walk_at "rd"
      refine R.cut (fun σ' H' => σ' = [some (.ref ra), some (.ref fa), some (.int n), some (.int ((ownW cs mw : Nat) : Int)), some (.int mv), some (.int MC), some (.bl mu), some (.int mr), some (.int (n / mv)), some (.int (n % mv)), some (oV (Wn rs ms cs (if mu = true ∧ n / mv = 1 then 0 else n / mv))), q11] ∧ H' = H2) ?_ ?_
      · cases mu with
        | false =>
          rw [if_neg (fun q : false = true ∧ n / mv = 1 => Bool.false_ne_true q.1)]
          walk_at "rd"
          exact ⟨rfl, rfl⟩
        | true =>
          walk_at "rd"
          refine it (fun a4 => ?_) (fun a4 => ?_)
          · rw [if_pos ⟨rfl, a4⟩]
            walk_at "rd"
            exact ⟨rfl, rfl⟩
          · rw [if_neg (fun q => a4 q.2)]
            walk_at "rd"
            exact ⟨rfl, rfl⟩
      · rintro σ3 H3 ⟨rfl, rfl⟩
        walk_at "rd"
        cases wa : Wn rs ms cs (if mu = true ∧ n / mv = 1 then 0 else n / mv) with
        | none =>
          rw [wa] at sy
          walk_at "rd"
          refine itnY rfl ?_
          exact ⟨_, _, _, _, _, _, _, _, _, rfl, s12, sy⟩
        | some a =>
          rw [wa] at sy
          walk_at "rd"
          refine itnN (fun z => nomatch z) ?_
          walk_at "rd"
          cases wb : Wn rs ms cs (n % mv) with
          | none =>
            rw [wb] at sy
            walk_at "rd"
            refine itnY rfl ?_
            exact ⟨_, _, _, _, _, _, _, _, _, rfl, s12, sy⟩
          | some b =>
            rw [wb] at sy
            walk_at "rd"
            refine itnN (fun z => nomatch z) ?_
            have kk := k H3 s12
            rw [sy] at kk
            have e : (oV (some (a + ownW cs mw + b)) : V) = .int ((a : Nat) + (ownW cs mw : Nat) + (b : Nat)) := by
              show V.int ((a + ownW cs mw + b : Nat)) = _
              rw [Int.natCast_add, Int.natCast_add]
            rw [e] at kk
            walk_at "rd"
            refine ⟨((a : Nat) : Int), ((ownW cs mw : Nat) : Int), rfl, rfl, ?_⟩
            walk_at "rd"
            exact ⟨_, ((b : Nat) : Int), rfl, rfl, kk⟩
    · rintro σ' H1 ⟨q3, q4, q5, q6, q7, q8, q9, q10, q11, rfl, s1, tg⟩
      rw [lx, List.drop_of_length_le (Nat.le_refl _)] at tg
      walk_at "rd"
      have := k H1 s1
      rw [tg] at this
      exact this
def NamesK (H : Hp) (d : Addr) (rs : List SR) (cs : List Str) : Prop := ∃ kn : List (Key × V), H d = some (.dK kn) ∧ (∀ v : Int, valV kn (Sum.inl v : Key) = (nmL rs v).head?.map fun w => V.int ((ownW cs w : Nat) : Int)) ∧ kn.length ≤ rs.length
def spSut (S : Addr) : Sp := fun vs H Q _ => ∃ (x ct : Addr) (last : Int) (rs : List SR) (ms : List MR) (cs : List Str), vs = [.ref x, .int last, .ref ct] ∧ SysAt S H x rs ms ∧ GoodSys rs ms ∧ H ct = some (.tup (cs.map V.str)) ∧ cs.length ≤ 1000 ∧ 0 ≤ last ∧ last ≤ 200000 ∧
  ∀ H' fa, Same H H' → H fa = none → H' fa = some (.lst (foundL rs ms cs (last.toNat + 1))) → Q (.ref fa) H'
theorem c_said_up_to (Z : Zs mg) {S : Addr} (TS : SysK K S) (c_rows_up_to : Cal P w K mg base 1 "rows_up_to" (spRup S) []) (c_first_with : Cal P w K mg base 1 "first_with" spFwith []) {f : Addr} {fd : FuncData} (F : Def K mg "said_up_to" sSut f fd) (b : Binds K fd ["system", "last", "counted"] []) : Cal P w K mg base 2 "said_up_to" (spSut S) [] := by
  refine cal0 F b .nil scSut (fun vs H Q E h => ?_) (fun cdv A outer s H vs Q E hr h => ?_)
  · obtain ⟨x, ct, last, rs, ms, cs, rfl, _⟩ := h
    rfl
  · obtain ⟨x, ct, last, rs, ms, cs, rfl, hX, hg, hct, cl, l0, l9, k⟩ := h
    refine ⟨_, pss_cons (ps_set (i := 3) scSut.nd rfl (Or.inl rfl) pe_dnewK)
      (pss_cons (ps_for PassesOwn.never rfl (kiT K (kFld K (pv 0))) (kgTup K (n := 2) rfl (pgs_cons (pg_name (i := 4) scSut.nd rfl (Or.inl rfl)) (pgs_cons (pg_name (i := 5) scSut.nd rfl (Or.inl rfl)) pgs_nil)))
        (pss_one (ps_expr (pe_dsetd (pv 3) (pv 5) (pe_ifExp (pt_cmpR (kIn K) (pv 4) (pv 2) (by rfl)) pe_int pe_int) ⟨by rfl, by rfl, by rfl, by rfl⟩))))
      (pss_cons (ps_setLc (i := 6) (own := [("row", 10)]) (g := gName 10) (tt := tYes) rfl scSut.nd rfl rfl (sw_true rfl rfl rfl (by decide +kernel)) (kiL K (pe_c c_rows_up_to hr (by omega) (by rfl) (pa_cons (pv 0) (pa_cons (pv 1) pa_nil)))) (blkOk_by (own := [("row", 10)]) (N := ["system", "last", "counted", "names", "word", "value", "rows", "found", "number", "many", "row"]) (sc := fnScope sSut) (by decide +kernel)) (fun _ _ _ _ _ => (pg_name (i := 10) scSut.nd rfl (Or.inl rfl))) (fun _ _ _ _ _ => pts_nil) (fun _ _ _ _ _ => pe_op (kCatT K) (pe_tup (pa_cons (pe_ifExp (pt_cmpR (kIn K) (pe_ix (kIxT K) (pv 10) pe_int (fun _ _ => rfl)) (pv 2) (by rfl)) pe_int pe_int) pa_nil)) (pe_slice (kSlA K) (pv 10) (po_some pe_int) po_none)))
      (pss_cons (ps_set (i := 7) scSut.nd rfl (Or.inl rfl) (pe_lst (pa_cons pe_int pa_nil)))
      (pss_cons (ps_for PassesOwn.never rfl (pi_range2 (by rfl) Z.range (pa_cons pe_int (pa_cons (pe_op op_add (pv 1) pe_int) pa_nil))) (pg_name (i := 8) scSut.nd rfl (Or.inl rfl))
        (pss_cons (ps_set (i := 9) scSut.nd rfl (Or.inl rfl) (pe_dget1 (hu_of hr) (pv 3) (pv 8) ⟨by rfl, by rfl, by rfl, by rfl⟩))
      (pss_one (ps_expr (kBM K (pe_bm PySem.F.plainAttrs_list PySem.F.slot_list_append PySem.F.type_list_append mt_append (pv 7) (pa_cons (pe_ifExp (pt_cmpR oIs (pv 9) pe_non (nomark _)) (pe_c c_first_with hr (by omega) (by rfl) (pa_cons (pv 6) (pa_cons (pv 7) (pa_cons (pv 8) pa_nil)))) (pv 9)) pa_nil)))))))
      (pss_one (ps_ret (pv 7))))))), ?_⟩
    obtain ⟨dx, s, m, v, r, xs, ys, hx, hs, hts, hm, htm, hv, hrr⟩ := id hX
    have lx : xs.length = rs.length := by have := hts.len; rwa [List.length_map] at this
    have inS : ∀ z : Str, inV (.str z) (cs.map V.str) = decide (z ∈ cs) := fun z => R.in_strs z cs
    have fl : (cs.map V.str).all flatV = true := by rw [List.all_eq_true]; intro v hv; obtain ⟨w, _, rfl⟩ := List.mem_map.mp hv; rfl
    have sl := hg.sl
    have ml := hg.ml
    walk_at "go"
    refine dnew fun d hd => R.gen hd fun H1 s1 h1 => ?_
    have hx1 := s1 _ _ hx
    have d0 := hd
    walk_at "rd"
    refine R.fldE hx1 TS.cl TS.nS rfl ?_
    walk_at "rd"
    refine for_it (walk_tup (K := K) (a := s) (xs := xs)) (fun i σ' H' => ∃ q4 q5, σ' = [some (.ref x), some (.int last), some (.ref ct), some (.ref d), q4, q5, none, none, none, none, none] ∧ SameBut d H1 H' ∧ NamesK H' d (rs.take i) cs)
      ⟨_, _, rfl, SameBut.refl, [], h1, fun v => rfl, Nat.zero_le _⟩ (fun i σ' H' _ hh => by obtain ⟨_, _, _, e, _⟩ := hh; exact SqT.of (e _ _ (ne_of_none hs d0) (s1 _ _ hs))) ?_ ?_
    · rintro i u σ' H2 H2' hi ⟨q4, q5, rfl, e2, kn, h2, hkn, kl⟩ ⟨rfl, hu⟩
      have hri : rs[i]? = some rs[i] := List.getElem?_eq_getElem (by omega)
      obtain ⟨b', hya, hb⟩ := hts.get i (srV rs[i]) (by rw [List.getElem?_map, hri]; rfl)
      rw [hya] at hu
      cases hu
      have et : rs.take (i + 1) = rs.take i ++ [rs[i]] := by rw [List.take_add_one, hri]; rfl
      rw [List.length_take] at kl
      rw [et]
      generalize rs[i] = rr at *
      have hb2 : H2' b' = some (.tup [.str rr.w, .int rr.v]) := e2 _ _ (ne_of_none hb d0) (s1 _ _ hb)
      have hct2 := e2 _ _ (ne_of_none hct d0) (s1 _ _ hct)
      have done : ∀ kn' : List (Key × V), (∀ G : Hp, G d = some (.dK kn') → SameBut d H1 G → (∀ v : Int, valV kn' (Sum.inl v : Key) = (nmL (rs.take i ++ [rr]) v).head?.map fun w => V.int ((ownW cs w : Nat) : Int)) → kn'.length ≤ min i rs.length + 1 → ∃ q4 q5 : Option V, [some (V.ref x), some (.int last), some (.ref ct), some (.ref d), some (.str rr.w), some (.int rr.v), none, none, none, none, none] = [some (V.ref x), some (.int last), some (.ref ct), some (.ref d), q4, q5, none, none, none, none, none] ∧ SameBut d H1 G ∧ NamesK G d (rs.take i ++ [rr]) cs) := fun kn' G g1 g2 g3 g4 => ⟨_, _, rfl, g2, kn', g1, g3, by rw [List.length_append, List.length_take]; exact g4⟩
      refine R.gtup (SqT.of hb2) rfl ?_
      refine R.gcons ?_
      refine R.gname ?_
      refine R.gcons ?_
      refine R.gname ?_
      refine R.gnil ?_
      walk_at "rd"
      refine R.dgetE h2 ?_
      walk_at "rd"
      refine R.inT (b := decide (rr.w ∈ cs)) hct2 rfl fl (inS _) ?_
      walk_at "rd"
      have ow : (if decide (rr.w ∈ cs) = true then (1 : Int) else 0) = ((ownW cs rr.w : Nat) : Int) := by
        unfold ownW
        by_cases h : rr.w ∈ cs
        · rw [decide_eq_true h, if_pos rfl, if_pos h]; rfl
        · rw [decide_eq_false h, if_neg Bool.false_ne_true, if_neg h]; rfl
      have setd : ∀ z : V, z = V.int ((ownW cs rr.w : Nat) : Int) → ∃ (kvs : List (Key × V)) (k : Key), H2' d = some (.dK kvs) ∧ V.int rr.v = kV k ∧ kvs.length < sizeLine ∧ (∀ v, valV kvs k = some v → ∃ q4 q5 : Option V, [some (V.ref x), some (.int last), some (.ref ct), some (.ref d), some (.str rr.w), some (.int rr.v), none, none, none, none, none] = [some (V.ref x), some (.int last), some (.ref ct), some (.ref d), q4, q5, none, none, none, none, none] ∧ SameBut d H1 H2' ∧ NamesK H2' d (rs.take i ++ [rr]) cs) ∧
          (valV kvs k = none → ∃ q4 q5 : Option V, [some (V.ref x), some (.int last), some (.ref ct), some (.ref d), some (.str rr.w), some (.int rr.v), none, none, none, none, none] = [some (V.ref x), some (.int last), some (.ref ct), some (.ref d), q4, q5, none, none, none, none, none] ∧ SameBut d H1 (upd H2' d (.dK (putK kvs k z))) ∧ NamesK (upd H2' d (.dK (putK kvs k z))) d (rs.take i ++ [rr]) cs) := fun z hz => by
        subst hz
        refine ⟨kn, Sum.inl rr.v, h2, rfl, small1000 (by omega), fun v hv => done kn H2' h2 e2 (fun v' => ?_) (by omega), fun hv => done _ _ upd_same e2.put (fun v' => ?_) (by have := DSub.putK_len kn (Sum.inl rr.v : Key) (V.int ((ownW cs rr.w : Nat) : Int)); omega)⟩
        · rw [hkn v', nmL_snoc]
          by_cases e : rr.v = v'
          · subst e
            rw [hkn] at hv
            cases q : nmL (rs.take i) rr.v with
            | nil => rw [q] at hv; cases hv
            | cons y ys => rfl
          · rw [if_neg e, List.append_nil]
        · rw [valV_put, nmL_snoc]
          by_cases e : rr.v = v'
          · subst e
            rw [if_pos rfl, if_pos rfl]
            rw [hkn] at hv
            cases q : nmL (rs.take i) rr.v with
            | nil => rfl
            | cons y ys => rw [q] at hv; cases hv
          · rw [if_neg (fun q => e (Sum.inl.inj q).symm), if_neg e, List.append_nil]
            exact hkn v'
      exact it (fun h => setd (.int 1) (by unfold ownW; rw [if_pos h]; rfl)) (fun h => setd (.int 0) (by unfold ownW; rw [if_neg h]; rfl))
    · rintro σ' H2 ⟨q4, q5, rfl, e2, N2⟩
      rw [lx, List.take_of_length_le (Nat.le_refl _)] at N2
      obtain ⟨kn, h2, hkn, kl⟩ := N2
      have s02 : Same H H2 := fun b o h => e2 b o (ne_of_none h d0) (s1 b o h)
      have X2 := hX.same s02
      have hct2 := s02 _ _ hct
      walk_at "rd"
      refine ⟨x, rs, ms, last, rfl, X2, ml, fun H3 D acc s3 nD h3 T3 => ?_⟩
      have h23 := s3 _ _ h2
      have hct3 := s3 _ _ hct2
      have s03 := s02.trans s3
      walk_at "rd"
      intro D2 hD2
      have lacc : acc.length = ms.length := by have := T3.len; rwa [List.length_map] at this
      refine lc_it (walk_list (K := K) (a := D) (xs := acc)) (fun i H' => Same H3 H' ∧ ∃ ac, H' D2 = some (.lst ac) ∧ TupsAt H' ac ((ms.take i).map (rowW cs last))) ⟨same_new (Same.refl _) hD2, [], upd_same, .nil⟩ (fun i H' _ hh => SqL.of (hh.1 _ _ h3)) ?_ ?_
      · rintro i u H4 H4' hi ⟨s4, ac, h4, T4⟩ ⟨rfl, hu⟩
        have hri : ms[i]? = some ms[i] := List.getElem?_eq_getElem (by omega)
        obtain ⟨b', hya, hb⟩ := T3.get i (rowU last ms[i]) (by rw [List.getElem?_map, hri]; rfl)
        rw [hya] at hu
        cases hu
        have et : ms.take (i + 1) = ms.take i ++ [ms[i]] := by rw [List.take_add_one, hri]; rfl
        have la := T4.len
        rw [List.length_map, List.length_take] at la
        rw [et, List.map_append]
        generalize ms[i] = mm at *
        have hb4 : H4' b' = some (.tup [.str mm.w, .int mm.v, .int (mm.c.getD last), .bl mm.u, .int mm.r]) := s4 _ _ hb
        have hct4 := s4 _ _ hct3
        have fin : ∀ z : V, z = V.int ((ownW cs mm.w : Nat) : Int) → [z].length ≤ sizeLine ∧ ∀ p, H4' p = none → tSl (rSlA K) (tVar 10) (tPart (tC (V.int 1))) tNoPart (List.set (wipe [some (V.ref x), some (V.int last), some (V.ref ct), some (V.ref d), q4, q5, none, none, none, none, none] (List.map (fun x => x.snd) [(Str.ofString "row", 10)])) 10 (some (V.ref b'))) (upd H4' p (.tup [z])) fun y H5 => rCatA K (.ref p) y H5 fun v H6 => ∃ acc, H6 D2 = some (.lst acc) ∧ acc.length < sizeLine ∧ Same H3 (upd H6 D2 (.lst (acc ++ [v]))) ∧ ∃ ac, upd H6 D2 (.lst (acc ++ [v])) D2 = some (.lst ac) ∧ TupsAt (upd H6 D2 (.lst (acc ++ [v]))) ac ((ms.take i).map (rowW cs last) ++ [mm].map (rowW cs last)) := fun z hz => by
          subst hz
          refine ⟨by show 1 ≤ sizeLine; decide, fun t1 ht1 => R.gen ht1 fun H5 s5 h5 => ?_⟩
          have hb5 := s5 _ _ hb4
          walk_at "rd"
          refine slTA hb5 fun t2 H6 s6 h6 => ?_
          rw [cut_from _ (by decide)] at h6
          refine catT (s6 _ _ h5) h6 (by show 1 + 4 ≤ sizeLine; decide) fun t3 H7 s7 h7 => ?_
          have h7D := s7 _ _ (s6 _ _ (s5 _ _ h4))
          have s47 := (s5.trans s6).trans s7
          exact ⟨ac, h7D, small1000 (by omega), same_put (s4.trans s47) hD2, _, upd_same, ((T4.keep fun a x h => s47 _ _ h).keep (keep_list h7D)).snoc (keep_list h7D _ _ h7)⟩
        refine R.gname ⟨rfl, ?_⟩
        walk_at "rd"
        refine R.inT (b := decide (mm.w ∈ cs)) hct4 rfl fl (inS _) ?_
        walk_at "rd"
        exact it (fun h => fin (.int 1) (by unfold ownW; rw [if_pos h]; rfl)) (fun h => fin (.int 0) (by unfold ownW; rw [if_neg h]; rfl))
      · rintro H4 ⟨s4, ac, h4, T4⟩
        rw [lacc, List.take_of_length_le (Nat.le_refl _)] at T4
        have h44 := s4 _ _ h23
        have s04 := s03.trans s4
        have hvv : ∀ m ∈ ms, 2 ≤ m.v := fun m hm => (hg.m m hm).lo
        walk_at "rd"
        refine ⟨by decide, fun fa hfa => R.gen hfa fun H5 s5 h5 => ?_⟩
        have fa0 : H fa = none := by
          cases z : H fa with
          | none => rfl
          | some o => have := s04 _ _ z; rw [hfa] at this; cases this
        have h5d := s5 _ _ h44
        have h5D := s5 _ _ h4
        have T5 := T4.keep (fun a x h => s5 _ _ h)
        have Df : D2 ≠ fa := ne_of_none h4 hfa
        have df : d ≠ fa := ne_of_none h44 hfa
        have h5' : H5 fa = some (.lst (foundL rs ms cs 1)) := by
          rw [h5]
          show _ = some (HO.lst [oV (WN rs ms cs 0)])
          rw [WN_zero]
          rfl
        walk_at "rd"
        refine for_it walk_range (fun i σ' H' => ∃ q8 q9, σ' = [some (.ref x), some (.int last), some (.ref ct), some (.ref d), q4, q5, some (.ref D2), some (.ref fa), q8, q9, none] ∧ SameBut fa H5 H' ∧ H' fa = some (.lst (foundL rs ms cs (i + 1))) ∧ TupsAt H' ac (ms.map (rowW cs last))) ⟨_, _, rfl, SameBut.refl, h5', T5⟩ (fun _ _ _ _ _ => trivial) ?_ ?_
        · rintro i u σ' H6 H6' hi ⟨q8, q9, rfl, e6, h6, T6⟩ ⟨rfl, rfl⟩
          have h6d := e6 _ _ df h5d
          have h6D := e6 _ _ Df h5D
          have en : ((i + 1 : Nat) : Int) = 1 + (i : Nat) := by omega
          have weq := Wn_eq (rs := rs) hvv cs (n := 1 + (i : Nat)) (by omega)
          have wn : WN rs ms cs (i + 1) = Wn rs ms cs (1 + (i : Nat)) := by unfold WN; rw [en]
          have lf := foundL_len rs ms cs (i + 1)
          have done : ∀ (G : Hp) (v : V) (q : Option V), v = oV (WN rs ms cs (i + 1)) → SameBut fa H5 G → G fa = some (.lst (foundL rs ms cs (i + 1))) → TupsAt G ac (ms.map (rowW cs last)) → ∃ q8 q9 : Option V, [some (V.ref x), some (.int last), some (.ref ct), some (.ref d), q4, q5, some (.ref D2), some (.ref fa), some (.int (1 + (i : Nat))), q, none] = [some (V.ref x), some (.int last), some (.ref ct), some (.ref d), q4, q5, some (.ref D2), some (.ref fa), q8, q9, none] ∧ SameBut fa H5 (upd G fa (.lst (foundL rs ms cs (i + 1) ++ [v]))) ∧ upd G fa (.lst (foundL rs ms cs (i + 1) ++ [v])) fa = some (.lst (foundL rs ms cs (i + 1 + 1))) ∧ TupsAt (upd G fa (.lst (foundL rs ms cs (i + 1) ++ [v]))) ac (ms.map (rowW cs last)) := fun G v q hv g1 g2 g3 => ⟨_, _, rfl, g1.put, by rw [upd_same, foundL_snoc rs ms cs (i + 1), hv], g3.keep (keep_list g2)⟩
          refine R.gname ?_
          walk_at "rd"
          refine R.dgetE h6d ?_
          walk_at "rd"
          refine R.dgetOI h6d ?_
          have hk := hkn (1 + (i : Nat))
          rw [hk]
          cases hh : (nmL rs (1 + (i : Nat))).head? with
          | some z =>
            rw [hh] at weq
            walk_at "rd"
            refine itN (fun q => nomatch (show V.int _ = V.non from q)) ?_
            walk_at "rd"
            refine R.append h6 (by rw [foundL_len]; show _ < 2 ^ 24; omega) ?_
            exact done H6' _ _ (by rw [wn, weq]; rfl) e6 h6 T6
          | none =>
            rw [hh] at weq
            walk_at "rd"
            refine itY rfl ?_
            walk_at "rd"
            refine ⟨D2, fa, ac, 1 + (i : Nat), last, rs, ms, cs, rfl, h6D, T6, by rw [show (1 + (i : Nat) : Int).toNat = i + 1 by omega]; exact h6, hg, by omega, by omega, l9, fun H7 s7 => ?_⟩
            have h7 := s7 _ _ h6
            walk_at "rd"
            refine R.append h7 (by rw [foundL_len]; show _ < 2 ^ 24; omega) ?_
            exact done H7 _ _ (by rw [wn, weq]) (e6.trans (SameBut.of s7)) h7 (T6.keep fun a x h => s7 _ _ h)
        · rintro σ' H6 ⟨q8, q9, rfl, e6, h6, T6⟩
          rw [show (last + 1 - 1).toNat = last.toNat by omega] at h6
          walk_at "rd"
          exact k H6 fa (fun b o h => e6 b o (ne_of_none h fa0) (s5 _ _ (s04 _ _ h))) fa0 h6
end
end KN
end
section
set_option Elab.async false
set_option linter.all false
set_option maxRecDepth 100000
set_option maxHeartbeats 4000000
set_option pp.maxSteps 1500
set_option pp.deepTerms false
local macro_rules | `(tactic| walk_at "ne") => `(tactic| first
  | assumption | (apply Ne.symm; assumption)
  | exact R.ne_new (by assumption) | exact (R.ne_new (by assumption)).symm
  | exact L2.ne_of_none (by assumption) (by assumption) | exact (L2.ne_of_none (by assumption) (by assumption)).symm
  | exact L2.ne_of_none (by assumption) (R.free_new (by assumption)) | exact (L2.ne_of_none (by assumption) (R.free_new (by assumption))).symm)
local macro_rules | `(tactic| walk_at "at") => `(tactic| first
  | assumption | exact L2.upd_same
  | (refine R.sb (H := ?H) (p := ?p) ?e ?n ?h; (case e => assumption); (case n => walk_at "ne"); (case h => walk_at "at"))
  | (refine R.sm (H := ?H) ?e ?h; (case e => assumption); (case h => walk_at "at"))
  | (refine Eq.trans (L2.upd_ne ?_) ?_ <;> first | walk_at "ne" | walk_at "at"))
local macro_rules | `(tactic| walk_at "sqt") => `(tactic| first | assumption | (refine L2.SqT.of ?_; walk_at "at"))
local macro_rules | `(tactic| walk_at "ty") => `(tactic| first | exact R.tyN | exact R.tyB | exact R.tyI | exact R.tyS | (refine R.tyT (xs := ?xs) ?h; case h => walk_at "at") | (refine R.tyL (xs := ?xs) ?h; case h => walk_at "at"))
local macro_rules | `(tactic| walk_at "kit") => `(tactic| first | exact R.kit_NoneType_tuple | exact R.kit_NoneType_list | exact R.kit_NoneType_bool | exact R.kit_NoneType_str | exact R.kit_NoneType_int | exact R.kit_bool_tuple | exact R.kit_bool_list | exact R.kit_bool_bool | exact R.kit_bool_str | exact R.kit_bool_int | exact R.kit_int_tuple | exact R.kit_int_list | exact R.kit_int_bool | exact R.kit_int_str | exact R.kit_int_int | exact R.kit_str_tuple | exact R.kit_str_list | exact R.kit_str_bool | exact R.kit_str_str | exact R.kit_str_int | exact R.kit_tuple_tuple | exact R.kit_tuple_list | exact R.kit_tuple_bool | exact R.kit_tuple_str | exact R.kit_tuple_int | exact R.kit_list_tuple | exact R.kit_list_list | exact R.kit_list_bool | exact R.kit_list_str | exact R.kit_list_int)
local macro_rules | `(tactic| walk_at "sz") => `(tactic| first | assumption | (refine Nat.le_trans ?_ (show 1000 ≤ PySem.sizeLine by decide); omega) | decide)
local macro_rules | `(tactic| walk_at "szl") => `(tactic| first | assumption | exact Nat.le_of_lt (L2.small1000 (by omega)) | decide | decide +kernel)
local macro_rules | `(tactic| walk_at "sys") => `(tactic| first | assumption | exact KN.SysAt.same (by assumption) (by assumption))
local macro_rules | `(tactic| walk_at "dk") => `(tactic| first | exact R.rowsS _ _ | exact R.rowsM _ _)
local macro_rules | `(tactic| walk_at "sqa") => `(tactic| first | assumption | exact R.SeqA.same (by assumption) (by assumption) | exact R.SeqA.new (by assumption) (by assumption) | (exact Or.inl (by walk_at "at")) | (exact Or.inr (by walk_at "at")))
local macro_rules | `(tactic| walk_at "ix") => `(tactic| first | rfl | (exact L2.atI_nat (by assumption)) | assumption)
local macro_rules | `(tactic| walk_at "cond") => `(tactic| first
  | exact Or.inl (by decide) | exact Or.inr (by decide) | exact Or.inl ⟨by omega, by omega⟩ | exact Or.inr ⟨by omega, by omega⟩
  | (constructor <;> omega) | (show _ ≠ _; omega) | decide | omega)
local macro_rules | `(tactic| walk_at "r1") => `(tactic| first
  | with_reducible refine R.seq ?_ | with_reducible refine R.asg ?_ | with_reducible refine R.ifs ?_ | with_reducible refine R.ret ?_ | with_reducible refine R.retN ?_ | with_reducible refine R.drop ?_ | with_reducible refine R.next ?_
  | with_reducible refine R.op ?_ | ((with_reducible refine R.var (v := ?v) ?h ?q); case h => rfl) | with_reducible refine R.c ?_ | with_reducible refine R.tst ?_ | with_reducible refine R.tb_ ?_ | with_reducible refine R.ex ?_
  | with_reducible refine R.i0 ?_ | with_reducible refine R.eqI ?_ | with_reducible refine R.neI ?_ | ((with_reducible refine R.ic ?_ ?_); · walk_at "cond") | with_reducible refine R.u0 ?_ | with_reducible refine R.un ?_
  | ((with_reducible refine R.eq ?_ ?_); · rfl) | ((with_reducible refine R.ne ?_ ?_); · rfl)
  | with_reducible refine R.and_ ?_ | with_reducible refine R.or_ ?_ | with_reducible refine R.not_ ?_ | with_reducible refine R.ife ?_ | with_reducible refine R.chain ?_
  | with_reducible refine R.cons ?_ | with_reducible refine R.nil ?_ | with_reducible refine R.call ?_ | with_reducible refine R.cb ?_ | with_reducible refine R.bm ?_
  | with_reducible refine R.gname ?_ | with_reducible refine R.gsub ?_ | with_reducible refine R.gnil ?_ | with_reducible refine R.gcons ?_ | with_reducible refine R.yes ?_
  | with_reducible refine R.int1 ?_ | ((with_reducible refine R.lenL (xs := ?xs) ?h ?q); case h => walk_at "at")
  | ((with_reducible refine R.ixL (xs := ?xs) (v := ?v) ?h ?e ?q); (case h => walk_at "at"); (case e => walk_at "ix"))
  | ((with_reducible refine R.setL (xs := ?xs) (n := ?n) ?h ?e ?q); (case h => walk_at "at"); (case e => rfl))
  | ((with_reducible refine R.append (xs := ?xs) ?h ?e ?q); (case h => walk_at "at"); (case e => walk_at "cond"))
  | with_reducible refine R.is_ ?_ | with_reducible refine R.isnot ?_ | with_reducible refine R.andV ?_ | with_reducible refine R.orV ?_ | with_reducible refine R.notV ?_
  | ((with_reducible refine R.isi (s := ?s) (b := ?b) ?ty ?h ?q); (case ty => walk_at "ty"); (case h => walk_at "kit"))
  | ((with_reducible refine R.addS ?h ?q); (case h => walk_at "sz")) | with_reducible refine R.max2 ?_ | with_reducible refine R.min2 ?_
  | ((with_reducible refine R.lenStr ?h ?q); (case h => walk_at "szl")) | ((with_reducible refine R.ixS (n := ?n) ?h ?e ?q); (case h => walk_at "szl"); (case e => walk_at "ix"))
  | ((with_reducible refine R.tyl (xs := ?xs) ?h ?q); (case h => walk_at "at")) | with_reducible refine R.itlist ?_ | with_reducible refine R.ittup ?_ | with_reducible refine R.m1 ?_ | with_reducible refine R.m1s ?_ | with_reducible refine R.leS ?_ | with_reducible refine R.itstr ?_ | with_reducible refine R.itstrE ?_ | with_reducible refine R.lc ?_ | with_reducible refine R.lc2 ?_ | with_reducible refine R.ckw ?_ | with_reducible refine R.par ?_ | with_reducible refine R.parE ?_ | with_reducible refine R.itrev ?_ | with_reducible refine R.dsetd ?_ | with_reducible refine R.dnotin_ ?_ | with_reducible refine R.for_ ?_ | ((with_reducible refine R.all_ (bs := ?bs) ?h ?q); (case h => walk_at "at"))
  | with_reducible refine R.rng1 ?_ | ((with_reducible refine R.rngE ?h ?q); (case h => (constructor <;> omega)))
  | ((with_reducible refine R.lenT (xs := ?xs) ?h ?q); (case h => walk_at "sqt")) | ((with_reducible refine R.ixT (xs := ?xs) (v := ?v) ?h ?e ?q); (case h => walk_at "sqt"); (case e => walk_at "ix"))
  | ((refine R.itlE (xs := ?xs) ?h ?q); (case h => walk_at "at")) | ((refine R.ittE (xs := ?xs) ?h ?q); (case h => walk_at "at"))
  | ((refine R.gseq (xs := ?xs) ?h ?e ?q); (case h => walk_at "sqa"); (case e => rfl)) | ((refine R.ixA (xs := ?xs) (v := ?v) ?h ?e ?q); (case h => walk_at "sqa"); (case e => walk_at "ix")) | ((refine R.lenA (xs := ?xs) ?h ?q); (case h => walk_at "sqa"))
  | ((with_reducible refine R.gtup (xs := ?xs) ?h ?e ?q); (case h => walk_at "sqt"); (case e => rfl))
  | with_reducible refine R.din_ ?_ | with_reducible refine R.dput_ ?_
  | with_reducible refine R.dget2_ ?_ | ((with_reducible refine R.aug_ (x := ?x) ?h ?q); case h => rfl) | with_reducible refine R.ipI_ ?_
  | with_reducible refine R.rng2 ?_ | ((with_reducible refine R.rngE2 ?h ?q); (case h => (refine ⟨?_, ?_, ?_, ?_⟩ <;> omega)))
  | with_reducible refine R.brk ?_ | with_reducible refine R.intB ?_ | with_reducible refine R.meth_ ?_ | ((refine KN.methS (rs := ?rs) (ms := ?ms) ?h (fun _ _ _ _ => rfl) ?q); case h => walk_at "sys")
  | with_reducible refine R.sl_ ?_ | with_reducible refine R.np_ ?_ | with_reducible refine R.pt_ ?_ | with_reducible refine R.ptE ?_ | with_reducible refine R.dget_ ?_ | with_reducible refine R.revL_ ?_
  | ((refine R.dgetS (kvs := ?kvs) (v := ?v) ?h ?e ?q); (case h => walk_at "at"); (case e => walk_at "dk"))
  | with_reducible refine R.sfld ?_ | with_reducible refine R.fld_ ?_ | with_reducible refine R.dc ?_
  | with_reducible refine R.dget1_ ?_
  | with_reducible refine R.itseq ?_ | with_reducible refine R.itenum ?_
  | with_reducible refine R.itT ?_ | with_reducible refine R.itF ?_ | with_reducible refine R.itNT ?_ | with_reducible refine R.itNF ?_
  | (with_reducible refine R.tup ?_) | (with_reducible refine R.lst ?_))
local macro_rules | `(tactic| walk_at "rd") => `(tactic| (repeat (first | walk_at "r1" | (dsimp only [Int.reduceToNat, List.set_cons_succ, List.set_cons_zero, List.length_cons, List.length_nil, List.nil_append, List.cons_append, List.append_nil]))))
local macro_rules | `(tactic| walk_at "go") => `(tactic| (rw [R.start_eq]; dsimp only [R.startE, List.map_nil]; walk_at "rd"))
local macro_rules | `(tactic| walk_at "r1") => `(tactic| first | with_reducible refine R.callN ?_ | with_reducible refine R.tr_ ?_ | with_reducible refine R.rng3 ?_ | with_reducible refine R.bits ?_ | with_reducible refine R.dnewT ?_)
-- RTX
namespace KN
open PySem L2 SX R
open C8 (Cal Def cal0 pe_c pe_gc fnScope fnBody pss_cut Met met0 pe_mt pe_mt0)
section
variable {P : Program} {w : World} {K : PySem.W.Frag} {mg : Str → Option Value} {base : Heap}
abbrev sCenI : Stmt := inClass (top 5) 0
theorem scCenI : FnScope ["self", "system", "last", "counted", "words", "many", "total"] ["self", "system", "last", "counted"] (defScope sCenI) := ⟨rfl, rfl, rfl, by decide +kernel, rfl, by decide +kernel, by decide +kernel⟩
abbrev sCenS : Stmt := inClass (top 5) 2
theorem scCenS : FnScope ["self", "number"] ["self", "number"] (fnScope sCenS) := ⟨rfl, rfl, rfl, by decide +kernel, rfl, by decide +kernel, by decide +kernel⟩
abbrev sCenM : Stmt := inClass (top 5) 3
theorem scCenM : FnScope ["self", "number"] ["self", "number"] (fnScope sCenM) := ⟨rfl, rfl, rfl, by decide +kernel, rfl, by decide +kernel, by decide +kernel⟩
abbrev sCenA : Stmt := inClass (top 5) 5
theorem scCenA : FnScope ["self", "count", "words"] ["self", "count", "words"] (fnScope sCenA) := ⟨rfl, rfl, rfl, by decide +kernel, rfl, by decide +kernel, by decide +kernel⟩
abbrev sCenB : Stmt := inClass (top 5) 7
theorem scCenB : FnScope ["self", "counts", "total", "rest", "many", "words"] ["self", "counts", "total", "rest"] (fnScope sCenB) := ⟨rfl, rfl, rfl, by decide +kernel, rfl, by decide +kernel, by decide +kernel⟩
structure CenK (K : PySem.W.Frag) (C : Addr) : Prop where
  cl : Cls K C
  nR : NoAttr K C "_row"
  nO : NoAttr K C "_own"
  nM : NoAttr K C "_maximum"
  nF : NoAttr K C "_found"
  nS : NoAttr K C "_sums"
def cenFs (rv : V) (own B : Int) (fa sa : Addr) : List (Str × V) := [("_row", rv), ("_own", .int own), ("_maximum", .int B), ("_found", .ref fa), ("_sums", .ref sa)]
def RowE (H : Hp) (ms : List MR) (rv : V) : Prop := (rv = .non ∧ endF ms = none) ∨ ∃ b m, rv = .ref b ∧ endF ms = some m ∧ H b = some (.tup (mrV m))
def ownE (ms : List MR) (cs : List Str) : Nat := match endF ms with
  | some m => ownW cs m.w
  | none => 0
def sumsL (f : Nat → Option Nat) (n : Nat) : List (List V) := (List.range n).map fun k => [V.int (sA f k : Nat), V.int (sT f k : Nat)]
theorem sumsL_at {f : Nat → Option Nat} {n k : Nat} (h : k < n) : (sumsL f n)[k]? = some [V.int (sA f k : Nat), V.int (sT f k : Nat)] := by
  unfold sumsL
  rw [List.getElem?_map, List.getElem?_range h]
  rfl
theorem atI_end {α : Type} {xs : List α} {v : α} {n : Nat} (l : xs.length = n + 1) (h : xs[n]? = some v) : atI xs (-1) = some v := by
  have e : ixN xs.length (-1) = some n := by
    unfold ixN
    rw [l, if_neg (by decide), if_pos (by omega)]
    congr 1
    omega
  unfold atI
  rw [e]
  exact h
theorem sumsL_len (f : Nat → Option Nat) (n : Nat) : (sumsL f n).length = n := by unfold sumsL; rw [List.length_map, List.length_range]
theorem sumsL_snoc (f : Nat → Option Nat) (n : Nat) : sumsL f (n + 1) = sumsL f n ++ [[V.int (sA f n : Nat), V.int (sT f n : Nat)]] := by
  unfold sumsL
  rw [List.range_succ, List.map_append]
  rfl
theorem RowE.keep {H H' : Hp} {ms : List MR} {rv : V} (k : TupKeep H H') (h : RowE H ms rv) : RowE H' ms rv := h.imp id fun ⟨b, m, e1, e2, e3⟩ => ⟨b, m, e1, e2, k _ _ e3⟩
structure CenAt (C : Addr) (H : Hp) (c : Addr) (rs : List SR) (ms : List MR) (cs : List Str) (L : Nat) : Prop where
  ex : ∃ (dx : Addr) (rv : V) (fa sa : Addr) (vs : List V), H c = some (.ins C dx (cenFs rv (ownE ms cs : Nat) (bmax rs ms) fa sa)) ∧ RowE H ms rv ∧ H fa = some (.lst (foundL rs ms cs (L + 1))) ∧ H sa = some (.lst vs) ∧ TupsAt H vs (sumsL (WN rs ms cs) (L + 1))
  l : L ≤ (bmax rs ms).toNat
theorem CenAt.same {C : Addr} {H H' : Hp} {c : Addr} {rs : List SR} {ms : List MR} {cs : List Str} {L : Nat} (h : CenAt C H c rs ms cs L) (s : Same H H') : CenAt C H' c rs ms cs L := by
  obtain ⟨⟨dx, rv, fa, sa, vs, h1, h2, h3, h4, h5⟩, l⟩ := h
  exact ⟨⟨dx, rv, fa, sa, vs, s _ _ h1, h2.keep (fun a x e => s _ _ e), s _ _ h3, s _ _ h4, h5.keep (fun a x e => s _ _ e)⟩, l⟩
theorem methC {C c : Addr} {x : Str} {H : Hp} {rs : List SR} {ms : List MR} {cs : List Str} {L : Nat} {T : Prop} (h : CenAt C H c rs ms cs L) (hn : ∀ rv own B fa sa, (cenFs rv own B fa sa).lookup x = none) (tt : T) : ∃ a dx fs, V.ref c = .ref a ∧ H a = some (.ins C dx fs) ∧ fs.lookup x = none ∧ T := by
  obtain ⟨⟨dx, rv, fa, sa, vs, h1, _⟩, _⟩ := h
  exact ⟨c, dx, _, rfl, h1, hn _ _ _ _ _, tt⟩
def spCenI (S C : Addr) : Sp := fun vs H Q _ => ∃ (c dx x ct : Addr) (last : Int) (rs : List SR) (ms : List MR) (cs : List Str), vs = [.ref c, .ref x, .int last, .ref ct] ∧ H c = some (.ins C dx []) ∧ SysAt S H x rs ms ∧ GoodSys rs ms ∧ H ct = some (.tup (cs.map V.str)) ∧ cs.length ≤ 1000 ∧ 0 ≤ last ∧
  ∀ H', SameBut c H H' → CenAt C H' c rs ms cs (min (bmax rs ms).toNat last.toNat) → Q .non H'
theorem ok_cenI (Z : Zs mg) {S C : Addr} (TC : CenK K C) (m_endless : Met P w K mg base 1 S "endless" (spEl S) []) (m_bounded_maximum : Met P w K mg base 1 S "bounded_maximum" (spBm S) []) (c_said_up_to : Cal P w K mg base 2 "said_up_to" (spSut S) [])
    {f : Addr} {fd : FuncData} (F : Fun K "__init__" "Census.__init__" sCenI f fd) : FnOk P w K mg base (L2.CX P w) 3 f fd ["self", "system", "last", "counted"] (spCenI S C) := by
  refine F.okX scCenI (fun vs H Q E h => ?_) (fun cdv A outer s H vs Q E hr h => ?_)
  · obtain ⟨c, dx, x, ct, last, rs, ms, cs, rfl, _⟩ := h
    rfl
  · obtain ⟨c, dx, x, ct, last, rs, ms, cs, rfl, hc, hX, hg, hct, cl, l0, k⟩ := h
    refine ⟨_, pss_cut (kFldS K (ps_fld (pv 0) (pe_mt0 m_endless hr (by omega) (pv 1)) rfl))
      (pss_cut (kFldS K (ps_fld (pv 0) (pe_ifExp (PW.pt (pw_and (pt_cmpR oIsNot (kFld K (pv 0)) pe_non (nomark _)) (pw_and1 (pt_cmpR (kIn K) (pe_ix (kIxT K) (kFld K (pv 0)) pe_int (fun _ _ => rfl)) (pv 3) (by rfl))))) pe_int pe_int) rfl))
      (pss_cons (kFldS K (ps_fld (pv 0) (pe_mt0 m_bounded_maximum hr (by omega) (pv 1)) rfl))
      (pss_cons (kFldS K (ps_fld (pv 0) (pe_c c_said_up_to hr (by omega) (by rfl) (pa_cons (pv 1) (pa_cons (pe_callB kMin2 (by rfl) Z.min (by decide +kernel) (pa_cons (kFld K (pv 0)) (pa_cons (pv 2) pa_nil))) (pa_cons (pv 3) pa_nil)))) rfl))
      (pss_cons (kFldS K (ps_fld (pv 0) (pe_lst (pa_cons (pe_tup (pa_cons pe_int (pa_cons pe_int pa_nil))) pa_nil)) rfl))
      (pss_one (ps_for (passes_of rfl) rfl (kiL K (pe_slice (kSlL K) (kFld K (pv 0)) (po_some pe_int) po_none)) (pg_name (i := 4) scCenI.nd rfl (Or.inl rfl))
        (pss_cons (ps_asg (pe_ix (kIxL K) (kFld K (pv 0)) (pe_un un_neg pe_int) (fun _ _ => rfl)) (kgTup K (n := 2) rfl (pgs_cons (pg_name (i := 5) scCenI.nd rfl (Or.inl rfl)) (pgs_cons (pg_name (i := 6) scCenI.nd rfl (Or.inl rfl)) pgs_nil))))
      (pss_one (ps_expr (kBM K (pe_bm PySem.F.plainAttrs_list PySem.F.slot_list_append PySem.F.type_list_append mt_append (kFld K (pv 0)) (pa_cons (pe_ifExp (pt_cmpR oIs (pv 4) pe_non (nomark _)) (pe_tup (pa_cons (pv 5) (pa_cons (pv 6) pa_nil))) (pe_tup (pa_cons (pe_op op_add (pv 5) pe_int) (pa_cons (pe_op op_add (pv 6) (pv 4)) pa_nil)))) pa_nil)))))))))))), ?_⟩
    have inS : ∀ z : Str, inV (.str z) (cs.map V.str) = decide (z ∈ cs) := fun z => R.in_strs z cs
    have fl : (cs.map V.str).all flatV = true := by rw [List.all_eq_true]; intro v hv; obtain ⟨w, _, rfl⟩ := List.mem_map.mp hv; rfl
    have hvv : ∀ m ∈ ms, 2 ≤ m.v := fun m hm => (hg.m m hm).lo
    obtain ⟨b1, b0⟩ := bmax_le hg
    have sy : ∀ {G : Hp}, SameBut c H G → SysAt S G x rs ms := fun e => by
      obtain ⟨dx', s, m, v, r, xs, ys, h1, h2, h3, h4, h5, h6, h7⟩ := id hX
      have xc : x ≠ c := ne_of h1 hc (by intro z; injection z with _ _ h; cases h)
      exact ⟨dx', s, m, v, r, xs, ys, e _ _ xc h1, e _ _ (ne_of h2 hc (by intro z; cases z)) h2, h3.keep (fun a x q => e _ _ (ne_of q hc (by intro z; cases z)) q), e _ _ (ne_of h4 hc (by intro z; cases z)) h4, h5.keep (fun a x q => e _ _ (ne_of q hc (by intro z; cases z)) q), e _ _ (ne_of h6 hc (by intro z; cases z)) h6, e _ _ (ne_of h7 hc (by intro z; cases z)) h7⟩
    walk_at "go"
    refine R.cut (fun σ' H' => ∃ rv, σ' = [some (.ref c), some (.ref x), some (.int last), some (.ref ct), none, none, none] ∧ SameBut c H H' ∧ H' c = some (.ins C dx [("_row", rv)]) ∧ RowE H' ms rv) ?_ ?_
    · walk_at "rd"
      refine r_el hX (fun m a he ha => ?_) (fun he => ?_)
      · walk_at "rd"
        exact ⟨c, C, dx, _, rfl, hc, TC.cl, TC.nR, by decide, .ref a, rfl, SameBut.refl.put, upd_same, .inr ⟨a, m, rfl, he, by rw [upd_ne (ne_of ha hc (by intro z; cases z))]; exact ha⟩⟩
      · walk_at "rd"
        exact ⟨c, C, dx, _, rfl, hc, TC.cl, TC.nR, by decide, .non, rfl, SameBut.refl.put, upd_same, .inl ⟨rfl, he⟩⟩
    · rintro σ1 H1 ⟨rv, rfl, e1, h1, R1⟩
      have ctc : ct ≠ c := ne_of hct hc (by intro z; cases z)
      have hct1 := e1 _ _ ctc hct
      walk_at "rd"
      refine R.cut (fun σ' H' => σ' = [some (.ref c), some (.ref x), some (.int last), some (.ref ct), none, none, none] ∧ SameBut c H1 H' ∧ H' c = some (.ins C dx [("_row", rv), ("_own", .int (ownE ms cs : Nat))]) ∧ RowE H' ms rv) ?_ ?_
      · have fin : ∀ z : V, z = V.int ((ownE ms cs : Nat) : Int) → ∃ a C' dx' fs, V.ref c = V.ref a ∧ H1 a = some (.ins C' dx' fs) ∧ Cls K C' ∧ NoAttr K C' "_own" ∧ fs.length < 1000 ∧ ([some (V.ref c), some (.ref x), some (.int last), some (.ref ct), none, none, none] = [some (V.ref c), some (.ref x), some (.int last), some (.ref ct), none, none, none] ∧ SameBut c H1 (upd H1 a (.ins C' dx' (putF "_own" z fs))) ∧ upd H1 a (.ins C' dx' (putF "_own" z fs)) c = some (.ins C dx [("_row", rv), ("_own", .int (ownE ms cs : Nat))]) ∧ RowE (upd H1 a (.ins C' dx' (putF "_own" z fs))) ms rv) := fun z hz => by
          subst hz
          exact ⟨c, C, dx, _, rfl, h1, TC.cl, TC.nO, by show 1 < 1000; decide, rfl, SameBut.refl.put, upd_same, R1.keep (fun a x e => by rw [upd_ne (ne_of e h1 (by intro z; cases z))]; exact e)⟩
        walk_at "rd"
        refine R.fldE h1 TC.cl TC.nR rfl ?_
        rcases R1 with ⟨rfl, he⟩ | ⟨b, m, rfl, he, hb⟩
        · walk_at "rd"
          refine itnY rfl ?_
          walk_at "rd"
          exact fin _ (by unfold ownE; rw [he]; rfl)
        · walk_at "rd"
          refine itnN (fun z => nomatch z) ?_
          walk_at "rd"
          refine R.fldE h1 TC.cl TC.nR rfl ?_
          walk_at "rd"
          refine R.inT (b := decide (m.w ∈ cs)) hct1 rfl fl (inS _) ?_
          walk_at "rd"
          refine it (fun h => ?_) (fun h => ?_)
          · walk_at "rd"
            exact fin (.int 1) (by unfold ownE; rw [he]; unfold ownW; dsimp only; rw [if_pos h]; rfl)
          · walk_at "rd"
            exact fin (.int 0) (by unfold ownE; rw [he]; unfold ownW; dsimp only; rw [if_neg h]; rfl)
      · rintro σ2 H2 ⟨rfl, e2, h2, R2⟩
        have e02 := e1.trans e2
        have X2 := sy e02
        have hct2 := e2 _ _ ctc hct1
        walk_at "rd"
        refine r_bm X2 hg ?_
        walk_at "rd"
        refine R.sfldE h2 TC.cl TC.nM (by show 2 < 1000; decide) ?_
        have pf1 : putF "_maximum" (V.int (bmax rs ms)) ([("_row", rv), ("_own", .int (ownE ms cs : Nat))] : List (Str × V)) = ([("_row", rv), ("_own", .int (ownE ms cs : Nat)), ("_maximum", .int (bmax rs ms))] : List (Str × V)) := rfl
        have pf2 : ∀ fa, putF "_found" (V.ref fa) ([("_row", rv), ("_own", .int (ownE ms cs : Nat)), ("_maximum", .int (bmax rs ms))] : List (Str × V)) = ([("_row", rv), ("_own", .int (ownE ms cs : Nat)), ("_maximum", .int (bmax rs ms)), ("_found", .ref fa)] : List (Str × V)) := fun fa => rfl
        have pf3 : ∀ fa sa, putF "_sums" (V.ref sa) ([("_row", rv), ("_own", .int (ownE ms cs : Nat)), ("_maximum", .int (bmax rs ms)), ("_found", .ref fa)] : List (Str × V)) = (cenFs rv (ownE ms cs : Nat) (bmax rs ms) fa sa : List (Str × V)) := fun fa sa => rfl
        rw [pf1]
        have e3 : SameBut c H2 (upd H2 c (.ins C dx [("_row", rv), ("_own", .int (ownE ms cs : Nat)), ("_maximum", .int (bmax rs ms))])) := SameBut.refl.put
        have R3 := R2.keep (H' := upd H2 c (.ins C dx [("_row", rv), ("_own", .int (ownE ms cs : Nat)), ("_maximum", .int (bmax rs ms))])) (fun a x e => by rw [upd_ne (ne_of e h2 (by intro z; cases z))]; exact e)
        have h3 : upd H2 c (.ins C dx [("_row", rv), ("_own", .int (ownE ms cs : Nat)), ("_maximum", .int (bmax rs ms))]) c = some _ := upd_same
        generalize upd H2 c (.ins C dx [("_row", rv), ("_own", .int (ownE ms cs : Nat)), ("_maximum", .int (bmax rs ms))]) = H3 at e3 R3 h3 ⊢
        have X3 := sy (e02.trans e3)
        have hct3 := e3 _ _ ctc hct2
        walk_at "rd"
        refine R.fldE h3 TC.cl TC.nM rfl ?_
        walk_at "rd"
        refine ⟨x, ct, _, rs, ms, cs, rfl, X3, hg, hct3, cl, by split <;> omega, by split <;> omega, fun H4 fa s4 fa0 hfa => ?_⟩
        have eL : (if last < bmax rs ms then last else bmax rs ms).toNat = min (bmax rs ms).toNat last.toNat := by split <;> omega
        rw [eL] at hfa
        have hL : min (bmax rs ms).toNat last.toNat ≤ (bmax rs ms).toNat := Nat.min_le_left _ _
        generalize min (bmax rs ms).toNat last.toNat = L at *
        have h4 := s4 _ _ h3
        have cfa : c ≠ fa := ne_of_none h3 fa0
        walk_at "rd"
        refine R.sfldE h4 TC.cl TC.nF (by show 3 < 1000; decide) ?_
        rw [pf2]
        have e5 : SameBut c H4 (upd H4 c (.ins C dx [("_row", rv), ("_own", .int (ownE ms cs : Nat)), ("_maximum", .int (bmax rs ms)), ("_found", .ref fa)])) := SameBut.refl.put
        have R5 := (R3.keep (fun a x e => s4 _ _ e)).keep (H' := upd H4 c (.ins C dx [("_row", rv), ("_own", .int (ownE ms cs : Nat)), ("_maximum", .int (bmax rs ms)), ("_found", .ref fa)])) (fun a x e => by rw [upd_ne (ne_of e h4 (by intro z; cases z))]; exact e)
        have h5 : upd H4 c (.ins C dx [("_row", rv), ("_own", .int (ownE ms cs : Nat)), ("_maximum", .int (bmax rs ms)), ("_found", .ref fa)]) c = some _ := upd_same
        have hfa5 := e5 _ _ (Ne.symm cfa) hfa
        generalize upd H4 c (.ins C dx [("_row", rv), ("_own", .int (ownE ms cs : Nat)), ("_maximum", .int (bmax rs ms)), ("_found", .ref fa)]) = H5 at e5 R5 h5 hfa5 ⊢
        have e05 : SameBut c H H5 := ((e02.trans e3).trans (SameBut.of s4)).trans e5
        walk_at "rd"
        refine ⟨by decide, fun t0 ht0 => R.gen ht0 fun H6 s6 h6 => ?_⟩
        walk_at "rd"
        refine ⟨by decide, fun sa hsa => R.gen hsa fun H7 s7 h7 => ?_⟩
        have h7c := s7 _ _ (s6 _ _ h5)
        have csa : c ≠ sa := ne_of_none (s6 _ _ h5) hsa
        walk_at "rd"
        refine R.sfldE h7c TC.cl TC.nS (by show 4 < 1000; decide) ?_
        rw [pf3]
        have e8 : SameBut c H7 (upd H7 c (.ins C dx (cenFs rv (ownE ms cs : Nat) (bmax rs ms) fa sa))) := SameBut.refl.put
        have R8 := (R5.keep (fun a x e => s7 _ _ (s6 _ _ e))).keep (H' := upd H7 c (.ins C dx (cenFs rv (ownE ms cs : Nat) (bmax rs ms) fa sa))) (fun a x e => by rw [upd_ne (ne_of e h7c (by intro z; cases z))]; exact e)
        have h8 : upd H7 c (.ins C dx (cenFs rv (ownE ms cs : Nat) (bmax rs ms) fa sa)) c = some _ := upd_same
        have hfa8 := e8 _ _ (Ne.symm cfa) (s7 _ _ (s6 _ _ hfa5))
        have hsa8 := e8 _ _ (Ne.symm csa) h7
        have ht8 := e8 _ _ (ne_of (s7 _ _ h6) h7c (by intro z; cases z)) (s7 _ _ h6)
        generalize upd H7 c (.ins C dx (cenFs rv (ownE ms cs : Nat) (bmax rs ms) fa sa)) = H8 at e8 R8 h8 hfa8 hsa8 ht8 ⊢
        have e08 : SameBut c H H8 := (e05.trans (SameBut.of (s6.trans s7))).trans e8
        walk_at "rd"
        refine R.fldE h8 TC.cl TC.nF rfl ?_
        walk_at "rd"
        refine slLN hfa8 fun l H9 s9 hl0 hl => ?_
        rw [cut_from _ (by decide)] at hl
        have h9 := s9 _ _ h8
        have hsa9 := s9 _ _ hsa8
        have sal : sa ≠ l := ne_of_none hsa8 hl0
        have T0 : TupsAt H9 [.ref t0] (sumsL (WN rs ms cs) 1) := TupsAt.snoc (xs := []) (ds := []) (s9 _ _ ht8) .nil
        walk_at "rd"
        refine for_it (walk_list (K := K) (a := l) (xs := (foundL rs ms cs (L + 1)).drop 1)) (fun i σ' H' => ∃ q4 q5 q6, σ' = [some (.ref c), some (.ref x), some (.int last), some (.ref ct), q4, q5, q6] ∧ SameBut sa H9 H' ∧ ∃ vs, H' sa = some (.lst vs) ∧ TupsAt H' vs (sumsL (WN rs ms cs) (i + 1)))
          ⟨_, _, _, rfl, SameBut.refl, _, hsa9, T0⟩ (fun i σ' H' _ hh => by obtain ⟨_, _, _, _, e, _⟩ := hh; exact SqL.of (e _ _ (Ne.symm sal) hl)) ?_ ?_
        · rintro i u σ' H10 H10' hi ⟨q4, q5, q6, rfl, e10, vs, hvs, T⟩ ⟨rfl, hu⟩
          have hiL : i < L := by
            rw [List.length_drop, foundL_len] at hi
            omega
          have hu' : u = oV (WN rs ms cs (i + 1)) := by
            have q : ((foundL rs ms cs (L + 1)).drop 1)[i]? = some (oV (WN rs ms cs (i + 1))) := by
              rw [List.getElem?_drop, Nat.add_comm 1 i]
              exact foundL_at (by omega)
            rw [hu] at q
            exact Option.some.inj q
          obtain ⟨b, hb1, hb2⟩ := T.get i _ (sumsL_at (Nat.lt_succ_self i))
          have lv : vs.length = i + 1 := by rw [T.len, sumsL_len]
          have h10 : H10' c = some _ := e10 _ _ csa h9
          have la : atI vs (-1) = some (.ref b) := atI_end lv hb1
          have done : ∀ (G : Hp) (t : Addr) (q4 q5 q6 : Option V), Same H10' G → G t = some (.tup [V.int (sA (WN rs ms cs) (i + 1) : Nat), V.int (sT (WN rs ms cs) (i + 1) : Nat)]) → vs.length < 2 ^ 24 ∧ ∃ p4 p5 p6, ([some (V.ref c), some (.ref x), some (.int last), some (.ref ct), q4, q5, q6] : L2.St) = [some (.ref c), some (.ref x), some (.int last), some (.ref ct), p4, p5, p6] ∧ SameBut sa H9 (upd G sa (.lst (vs ++ [.ref t]))) ∧ ∃ vs', upd G sa (.lst (vs ++ [.ref t])) sa = some (.lst vs') ∧ TupsAt (upd G sa (.lst (vs ++ [.ref t]))) vs' (sumsL (WN rs ms cs) (i + 1 + 1)) := fun G t q4 q5 q6 g1 g2 => by
            have kp : TupKeep G (upd G sa (.lst (vs ++ [.ref t]))) := keep_list (g1 _ _ hvs)
            refine ⟨by omega, _, _, _, rfl, (e10.trans (SameBut.of g1)).put, _, upd_same, ?_⟩
            rw [sumsL_snoc]
            exact (((T.keep fun a x e => g1 _ _ e).keep kp)).snoc (kp _ _ g2)
          refine R.gname ?_
          walk_at "rd"
          refine R.fldE h10 TC.cl TC.nS rfl ?_
          walk_at "rd"
          refine R.fldE h10 TC.cl TC.nS rfl ?_
          walk_at "rd"
          rw [hu']
          cases hw : WN rs ms cs (i + 1) with
          | none =>
            refine itY rfl ?_
            walk_at "rd"
            refine ⟨by decide, fun t ht => R.gen ht fun G g1 g2 => ?_⟩
            walk_at "rd"
            obtain ⟨d1, d2⟩ := done G t _ _ _ g1 (by rw [g2]; show _ = some (HO.tup [V.int (((sA (WN rs ms cs) i + (if (WN rs ms cs (i + 1)).isSome = true then 1 else 0) : Nat)) : Int), V.int ((sT (WN rs ms cs) i + (WN rs ms cs (i + 1)).getD 0 : Nat) : Int)]); rw [hw]; rfl)
            exact R.append (g1 _ _ hvs) d1 d2
          | some a =>
            dsimp only [oV]
            refine itN (fun q => nomatch (show V.int _ = V.non from q)) ?_
            walk_at "rd"
            refine ⟨by decide, fun t ht => R.gen ht fun G g1 g2 => ?_⟩
            walk_at "rd"
            obtain ⟨d1, d2⟩ := done G t _ _ _ g1 (by rw [g2]; show _ = some (HO.tup [V.int (((sA (WN rs ms cs) i + (if (WN rs ms cs (i + 1)).isSome = true then 1 else 0) : Nat)) : Int), V.int ((sT (WN rs ms cs) i + (WN rs ms cs (i + 1)).getD 0 : Nat) : Int)]); rw [hw]; rfl)
            exact R.append (g1 _ _ hvs) d1 d2
        · rintro σ' H10 ⟨q4, q5, q6, rfl, e10, vs, hvs, T⟩
          have hn : ((foundL rs ms cs (L + 1)).drop 1).length = L := by rw [List.length_drop, foundL_len]; omega
          rw [hn] at T
          walk_at "rd"
          have fs : fa ≠ sa := fun z => by subst z; have := s6 _ _ hfa5; rw [hsa] at this; cases this
          refine k H10 (fun b o bc hb => ?_) ⟨⟨dx, rv, fa, sa, vs, e10 _ _ csa h9, (R8.keep (fun a x e => s9 _ _ e)).keep (fun a x e => e10 _ _ (ne_of e hsa9 (by intro z; cases z)) e), e10 _ _ fs (s9 _ _ hfa8), hvs, T⟩, hL⟩
          refine e10 _ _ (fun z => ?_) (s9 _ _ (e08 _ _ bc hb))
          subst z
          have := s6 _ _ (e05 _ _ bc hb)
          rw [hsa] at this
          cases this
end
end KN
end
section
set_option Elab.async false
set_option linter.all false
set_option maxRecDepth 100000
set_option maxHeartbeats 4000000
set_option pp.maxSteps 1500
set_option pp.deepTerms false
local macro_rules | `(tactic| walk_at "ne") => `(tactic| first
  | assumption | (apply Ne.symm; assumption)
  | exact R.ne_new (by assumption) | exact (R.ne_new (by assumption)).symm
  | exact L2.ne_of_none (by assumption) (by assumption) | exact (L2.ne_of_none (by assumption) (by assumption)).symm
  | exact L2.ne_of_none (by assumption) (R.free_new (by assumption)) | exact (L2.ne_of_none (by assumption) (R.free_new (by assumption))).symm)
local macro_rules | `(tactic| walk_at "at") => `(tactic| first
  | assumption | exact L2.upd_same
  | (refine R.sb (H := ?H) (p := ?p) ?e ?n ?h; (case e => assumption); (case n => walk_at "ne"); (case h => walk_at "at"))
  | (refine R.sm (H := ?H) ?e ?h; (case e => assumption); (case h => walk_at "at"))
  | (refine Eq.trans (L2.upd_ne ?_) ?_ <;> first | walk_at "ne" | walk_at "at"))
local macro_rules | `(tactic| walk_at "sqt") => `(tactic| first | assumption | (refine L2.SqT.of ?_; walk_at "at"))
local macro_rules | `(tactic| walk_at "ty") => `(tactic| first | exact R.tyN | exact R.tyB | exact R.tyI | exact R.tyS | (refine R.tyT (xs := ?xs) ?h; case h => walk_at "at") | (refine R.tyL (xs := ?xs) ?h; case h => walk_at "at"))
local macro_rules | `(tactic| walk_at "kit") => `(tactic| first | exact R.kit_NoneType_tuple | exact R.kit_NoneType_list | exact R.kit_NoneType_bool | exact R.kit_NoneType_str | exact R.kit_NoneType_int | exact R.kit_bool_tuple | exact R.kit_bool_list | exact R.kit_bool_bool | exact R.kit_bool_str | exact R.kit_bool_int | exact R.kit_int_tuple | exact R.kit_int_list | exact R.kit_int_bool | exact R.kit_int_str | exact R.kit_int_int | exact R.kit_str_tuple | exact R.kit_str_list | exact R.kit_str_bool | exact R.kit_str_str | exact R.kit_str_int | exact R.kit_tuple_tuple | exact R.kit_tuple_list | exact R.kit_tuple_bool | exact R.kit_tuple_str | exact R.kit_tuple_int | exact R.kit_list_tuple | exact R.kit_list_list | exact R.kit_list_bool | exact R.kit_list_str | exact R.kit_list_int)
local macro_rules | `(tactic| walk_at "sz") => `(tactic| first | assumption | (refine Nat.le_trans ?_ (show 1000 ≤ PySem.sizeLine by decide); omega) | decide)
local macro_rules | `(tactic| walk_at "szl") => `(tactic| first | assumption | exact Nat.le_of_lt (L2.small1000 (by omega)) | decide | decide +kernel)
local macro_rules | `(tactic| walk_at "sys") => `(tactic| first | assumption | exact KN.SysAt.same (by assumption) (by assumption))
local macro_rules | `(tactic| walk_at "dk") => `(tactic| first | exact R.rowsS _ _ | exact R.rowsM _ _)
local macro_rules | `(tactic| walk_at "sqa") => `(tactic| first | assumption | exact R.SeqA.same (by assumption) (by assumption) | exact R.SeqA.new (by assumption) (by assumption) | (exact Or.inl (by walk_at "at")) | (exact Or.inr (by walk_at "at")))
local macro_rules | `(tactic| walk_at "ix") => `(tactic| first | rfl | (exact L2.atI_nat (by assumption)) | assumption)
local macro_rules | `(tactic| walk_at "cond") => `(tactic| first
  | exact Or.inl (by decide) | exact Or.inr (by decide) | exact Or.inl ⟨by omega, by omega⟩ | exact Or.inr ⟨by omega, by omega⟩
  | (constructor <;> omega) | (show _ ≠ _; omega) | decide | omega)
local macro_rules | `(tactic| walk_at "r1") => `(tactic| first
  | with_reducible refine R.seq ?_ | with_reducible refine R.asg ?_ | with_reducible refine R.ifs ?_ | with_reducible refine R.ret ?_ | with_reducible refine R.retN ?_ | with_reducible refine R.drop ?_ | with_reducible refine R.next ?_
  | with_reducible refine R.op ?_ | ((with_reducible refine R.var (v := ?v) ?h ?q); case h => rfl) | with_reducible refine R.c ?_ | with_reducible refine R.tst ?_ | with_reducible refine R.tb_ ?_ | with_reducible refine R.ex ?_
  | with_reducible refine R.i0 ?_ | with_reducible refine R.eqI ?_ | with_reducible refine R.neI ?_ | ((with_reducible refine R.ic ?_ ?_); · walk_at "cond") | with_reducible refine R.u0 ?_ | with_reducible refine R.un ?_
  | ((with_reducible refine R.eq ?_ ?_); · rfl) | ((with_reducible refine R.ne ?_ ?_); · rfl)
  | with_reducible refine R.and_ ?_ | with_reducible refine R.or_ ?_ | with_reducible refine R.not_ ?_ | with_reducible refine R.ife ?_ | with_reducible refine R.chain ?_
  | with_reducible refine R.cons ?_ | with_reducible refine R.nil ?_ | with_reducible refine R.call ?_ | with_reducible refine R.cb ?_ | with_reducible refine R.bm ?_
  | with_reducible refine R.gname ?_ | with_reducible refine R.gsub ?_ | with_reducible refine R.gnil ?_ | with_reducible refine R.gcons ?_ | with_reducible refine R.yes ?_
  | with_reducible refine R.int1 ?_ | ((with_reducible refine R.lenL (xs := ?xs) ?h ?q); case h => walk_at "at")
  | ((with_reducible refine R.ixL (xs := ?xs) (v := ?v) ?h ?e ?q); (case h => walk_at "at"); (case e => walk_at "ix"))
  | ((with_reducible refine R.setL (xs := ?xs) (n := ?n) ?h ?e ?q); (case h => walk_at "at"); (case e => rfl))
  | ((with_reducible refine R.append (xs := ?xs) ?h ?e ?q); (case h => walk_at "at"); (case e => walk_at "cond"))
  | with_reducible refine R.is_ ?_ | with_reducible refine R.isnot ?_ | with_reducible refine R.andV ?_ | with_reducible refine R.orV ?_ | with_reducible refine R.notV ?_
  | ((with_reducible refine R.isi (s := ?s) (b := ?b) ?ty ?h ?q); (case ty => walk_at "ty"); (case h => walk_at "kit"))
  | ((with_reducible refine R.addS ?h ?q); (case h => walk_at "sz")) | with_reducible refine R.max2 ?_ | with_reducible refine R.min2 ?_
  | ((with_reducible refine R.lenStr ?h ?q); (case h => walk_at "szl")) | ((with_reducible refine R.ixS (n := ?n) ?h ?e ?q); (case h => walk_at "szl"); (case e => walk_at "ix"))
  | ((with_reducible refine R.tyl (xs := ?xs) ?h ?q); (case h => walk_at "at")) | with_reducible refine R.itlist ?_ | with_reducible refine R.ittup ?_ | with_reducible refine R.m1 ?_ | with_reducible refine R.m1s ?_ | with_reducible refine R.leS ?_ | with_reducible refine R.itstr ?_ | with_reducible refine R.itstrE ?_ | with_reducible refine R.lc ?_ | with_reducible refine R.lc2 ?_ | with_reducible refine R.ckw ?_ | with_reducible refine R.par ?_ | with_reducible refine R.parE ?_ | with_reducible refine R.itrev ?_ | with_reducible refine R.dsetd ?_ | with_reducible refine R.dnotin_ ?_ | with_reducible refine R.for_ ?_ | ((with_reducible refine R.all_ (bs := ?bs) ?h ?q); (case h => walk_at "at"))
  | with_reducible refine R.rng1 ?_ | ((with_reducible refine R.rngE ?h ?q); (case h => (constructor <;> omega)))
  | ((with_reducible refine R.lenT (xs := ?xs) ?h ?q); (case h => walk_at "sqt")) | ((with_reducible refine R.ixT (xs := ?xs) (v := ?v) ?h ?e ?q); (case h => walk_at "sqt"); (case e => walk_at "ix"))
  | ((refine R.itlE (xs := ?xs) ?h ?q); (case h => walk_at "at")) | ((refine R.ittE (xs := ?xs) ?h ?q); (case h => walk_at "at"))
  | ((refine R.gseq (xs := ?xs) ?h ?e ?q); (case h => walk_at "sqa"); (case e => rfl)) | ((refine R.ixA (xs := ?xs) (v := ?v) ?h ?e ?q); (case h => walk_at "sqa"); (case e => walk_at "ix")) | ((refine R.lenA (xs := ?xs) ?h ?q); (case h => walk_at "sqa"))
  | ((with_reducible refine R.gtup (xs := ?xs) ?h ?e ?q); (case h => walk_at "sqt"); (case e => rfl))
  | with_reducible refine R.din_ ?_ | with_reducible refine R.dput_ ?_
  | with_reducible refine R.dget2_ ?_ | ((with_reducible refine R.aug_ (x := ?x) ?h ?q); case h => rfl) | with_reducible refine R.ipI_ ?_
  | with_reducible refine R.rng2 ?_ | ((with_reducible refine R.rngE2 ?h ?q); (case h => (refine ⟨?_, ?_, ?_, ?_⟩ <;> omega)))
  | with_reducible refine R.brk ?_ | with_reducible refine R.intB ?_ | with_reducible refine R.meth_ ?_ | ((refine KN.methS (rs := ?rs) (ms := ?ms) ?h (fun _ _ _ _ => rfl) ?q); case h => walk_at "sys")
  | with_reducible refine R.sl_ ?_ | with_reducible refine R.np_ ?_ | with_reducible refine R.pt_ ?_ | with_reducible refine R.ptE ?_ | with_reducible refine R.dget_ ?_ | with_reducible refine R.revL_ ?_
  | ((refine R.dgetS (kvs := ?kvs) (v := ?v) ?h ?e ?q); (case h => walk_at "at"); (case e => walk_at "dk"))
  | with_reducible refine R.sfld ?_ | with_reducible refine R.fld_ ?_ | with_reducible refine R.dc ?_
  | with_reducible refine R.dget1_ ?_
  | with_reducible refine R.itseq ?_ | with_reducible refine R.itenum ?_
  | with_reducible refine R.itT ?_ | with_reducible refine R.itF ?_ | with_reducible refine R.itNT ?_ | with_reducible refine R.itNF ?_
  | (with_reducible refine R.tup ?_) | (with_reducible refine R.lst ?_))
local macro_rules | `(tactic| walk_at "rd") => `(tactic| (repeat (first | walk_at "r1" | (dsimp only [Int.reduceToNat, List.set_cons_succ, List.set_cons_zero, List.length_cons, List.length_nil, List.nil_append, List.cons_append, List.append_nil]))))
local macro_rules | `(tactic| walk_at "go") => `(tactic| (rw [R.start_eq]; dsimp only [R.startE, List.map_nil]; walk_at "rd"))
local macro_rules | `(tactic| walk_at "r1") => `(tactic| first | with_reducible refine R.callN ?_ | with_reducible refine R.tr_ ?_ | with_reducible refine R.rng3 ?_ | with_reducible refine R.bits ?_ | with_reducible refine R.dnewT ?_)
-- RTX
namespace KN
open PySem L2 SX R
open C8 (Cal Def cal0 pe_c pe_gc fnScope fnBody pss_cut Met met0 pe_mt pe_mt0)
section
variable {P : Program} {w : World} {K : PySem.W.Frag} {mg : Str → Option Value} {base : Heap}
theorem ownW_le (cs : List Str) (w : Str) : ownW cs w ≤ 1 := by unfold ownW; split <;> decide
theorem ownE_le (ms : List MR) (cs : List Str) : ownE ms cs ≤ 1 := by
  unfold ownE
  split
  · exact ownW_le _ _
  · decide
theorem two_pow {a b : Nat} (h : a < 2 ^ b) : ((a : Nat) : Int).natAbs < 2 ^ b := by rw [Int.natAbs_natCast]; exact h
def spCS (C : Addr) : Sp := fun vs H Q _ => ∃ (c : Addr) (n : Nat) (rs : List SR) (ms : List MR) (cs : List Str) (L : Nat), vs = [.ref c, .int (n : Nat)] ∧ CenAt C H c rs ms cs L ∧ ∀ b, H b = some (.tup [V.int (sA (WN rs ms cs) (min n L) : Nat), V.int (sT (WN rs ms cs) (min n L) : Nat)]) → Q (.ref b) H
theorem m_small_sums (Z : Zs mg) {C : Addr} (TC : CenK K C) {f : Addr} {fd : FuncData} (me : Meth K C "_small_sums" f) (F : C8.Fun K "_small_sums" "Census._small_sums" sCenS f fd) (b : Binds K fd ["self", "number"] []) : Met P w K mg base 1 C "_small_sums" (spCS C) [] := by
  refine met0 TC.cl me F b scCenS (fun vs H Q E h => ?_) (fun cdv A outer s H vs Q E hr h => ?_)
  · obtain ⟨c, n, rs, ms, cs, L, rfl, _⟩ := h
    rfl
  · obtain ⟨c, n, rs, ms, cs, L, rfl, ⟨⟨dx, rv, fa, sa, vs, h1, h2, h3, h4, T⟩, hL⟩, k⟩ := h
    refine ⟨_, pss_one (ps_ret (pe_ix (kIxL K) (kFld K (pv 0)) (pe_callB kMin2 (by rfl) Z.min (by decide +kernel) (pa_cons (pv 1) (pa_cons (pe_op op_sub (pe_callB (kLen K) (by rfl) Z.len PySem.boot_len (pa_cons (kFld K (pv 0)) pa_nil)) pe_int) pa_nil))) (fun _ _ => rfl))), ?_⟩
    have lv : vs.length = L + 1 := by rw [T.len, sumsL_len]
    walk_at "go"
    refine R.fldE h1 TC.cl TC.nS rfl ?_
    walk_at "rd"
    refine R.fldE h1 TC.cl TC.nS rfl ?_
    walk_at "rd"
    obtain ⟨b, hb1, hb2⟩ := T.get (min n L) _ (sumsL_at (f := WN rs ms cs) (n := L + 1) (k := min n L) (by omega))
    have e : (if ((vs.length : Nat) : Int) - 1 < ((n : Nat) : Int) then ((vs.length : Nat) : Int) - 1 else ((n : Nat) : Int)) = ((min n L : Nat) : Int) := by rw [lv]; split <;> omega
    rw [e]
    refine R.ixL h4 (atI_nat hb1) ?_
    exact k b hb2
def spCM (C : Addr) : Sp := fun vs H Q _ => ∃ (c : Addr) (n : Nat) (rs : List SR) (ms : List MR) (cs : List Str) (L : Nat), vs = [.ref c, .int (n : Nat)] ∧ CenAt C H c rs ms cs L ∧ Q (oV (if n ≤ L then WN rs ms cs n else none)) H
theorem m_small_ (Z : Zs mg) {C : Addr} (TC : CenK K C) {f : Addr} {fd : FuncData} (me : Meth K C "_small" f) (F : C8.Fun K "_small" "Census._small" sCenM f fd) (b : Binds K fd ["self", "number"] []) : Met P w K mg base 1 C "_small" (spCM C) [] := by
  refine met0 TC.cl me F b scCenM (fun vs H Q E h => ?_) (fun cdv A outer s H vs Q E hr h => ?_)
  · obtain ⟨c, n, rs, ms, cs, L, rfl, _⟩ := h
    rfl
  · obtain ⟨c, n, rs, ms, cs, L, rfl, ⟨⟨dx, rv, fa, sa, vs, h1, h2, h3, h4, T⟩, hL⟩, k⟩ := h
    refine ⟨_, pss_one (ps_ret (pe_ifExp (pt_cmpR op_lt (pv 1) (pe_callB (kLen K) (by rfl) Z.len PySem.boot_len (pa_cons (kFld K (pv 0)) pa_nil)) (nomark _)) (pe_ix (kIxL K) (kFld K (pv 0)) (pv 1) (fun _ _ => rfl)) pe_non)), ?_⟩
    walk_at "go"
    refine R.fldE h1 TC.cl TC.nF rfl ?_
    walk_at "rd"
    rw [foundL_len]
    refine it (fun h5 => ?_) (fun h5 => ?_)
    · walk_at "rd"
      refine R.fldE h1 TC.cl TC.nF rfl ?_
      walk_at "rd"
      refine R.ixL h3 (atI_nat (foundL_at (n := L + 1) (k := n) (by omega))) ?_
      rw [if_pos (by omega)] at k
      exact k
    · walk_at "rd"
      rw [if_neg (by omega)] at k
      exact k
def spCA (C : Addr) : Sp := fun vs H Q _ => ∃ (c : Addr) (k : Int) (wv : V) (rs : List SR) (ms : List MR) (cs : List Str) (L : Nat) (m : MR), vs = [.ref c, .int k, wv] ∧ CenAt C H c rs ms cs L ∧ endF ms = some m ∧ Q (if k = 1 ∧ m.u = true then .int 0 else wv) H
theorem RowE.some {H : Hp} {ms : List MR} {rv : V} {m : MR} (h : RowE H ms rv) (e : endF ms = some m) : ∃ b, rv = .ref b ∧ H b = Option.some (.tup (mrV m)) := by
  rcases h with ⟨_, h⟩ | ⟨b, m', h1, h2, h3⟩
  · rw [e] at h; cases h
  · rw [e] at h2
    cases h2
    exact ⟨b, h1, h3⟩
theorem m_ahead (Z : Zs mg) {C : Addr} (TC : CenK K C) {f : Addr} {fd : FuncData} (me : Meth K C "_ahead" f) (F : C8.Fun K "_ahead" "Census._ahead" sCenA f fd) (b : Binds K fd ["self", "count", "words"] []) : Met P w K mg base 1 C "_ahead" (spCA C) [] := by
  refine met0 TC.cl me F b scCenA (fun vs H Q E h => ?_) (fun cdv A outer s H vs Q E hr h => ?_)
  · obtain ⟨c, k, wv, rs, ms, cs, L, m, rfl, _⟩ := h
    rfl
  · obtain ⟨c, n, wv, rs, ms, cs, L, m, rfl, ⟨⟨dx, rv, fa, sa, vs, h1, h2, h3, h4, T⟩, hL⟩, he, k⟩ := h
    refine ⟨_, pss_one (ps_ret (pe_ifExp (PW.pt (pw_and (pt_cmpR op_eq (pv 1) pe_int (nomark _)) (pw_and1 (pt_val (pe_ix (kIxT K) (kFld K (pv 0)) pe_int (fun _ _ => rfl)))))) pe_int (pv 2))), ?_⟩
    obtain ⟨b, rfl, hb⟩ := h2.some he
    walk_at "go"
    refine it (fun h5 => ?_) (fun h5 => ?_)
    · walk_at "rd"
      refine R.fldE h1 TC.cl TC.nR rfl ?_
      walk_at "rd"
      generalize hmu : m.u = u at *
      cases u with
      | true =>
        rw [if_pos ⟨h5, rfl⟩] at k
        walk_at "rd"
        exact k
      | false =>
        rw [if_neg (fun q : n = 1 ∧ false = true => Bool.false_ne_true q.2)] at k
        walk_at "rd"
        exact k
    · rw [if_neg (fun q : n = 1 ∧ m.u = true => h5 q.1)] at k
      walk_at "rd"
      exact k
def spCB (C : Addr) : Sp := fun vs H Q _ => ∃ (c : Addr) (k t r : Nat) (rs : List SR) (ms : List MR) (cs : List Str) (L : Nat), vs = [.ref c, .int (k : Nat), .int (t : Nat), .int (r : Nat)] ∧ CenAt C H c rs ms cs L ∧ GoodSys rs ms ∧ k < 2 ^ 10000 ∧ t < 2 ^ 20000 ∧
  ∀ H' p, Same H H' → H' p = some (.tup [V.int (k * (1 + sA (WN rs ms cs) (min r L)) : Nat), V.int ((t + k * ownE ms cs) * (1 + sA (WN rs ms cs) (min r L)) + k * sT (WN rs ms cs) (min r L) : Nat)]) → Q (.ref p) H'
theorem m_block (Z : Zs mg) {C : Addr} (TC : CenK K C) (m__small_sums : Met P w K mg base 1 C "_small_sums" (spCS C) []) {f : Addr} {fd : FuncData} (me : Meth K C "_block" f) (F : C8.Fun K "_block" "Census._block" sCenB f fd) (b : Binds K fd ["self", "counts", "total", "rest"] []) : Met P w K mg base 2 C "_block" (spCB C) [] := by
  refine met0 TC.cl me F b scCenB (fun vs H Q E h => ?_) (fun cdv A outer s H vs Q E hr h => ?_)
  · obtain ⟨c, k, t, r, rs, ms, cs, L, rfl, _⟩ := h
    rfl
  · obtain ⟨c, n, t, r, rs, ms, cs, L, rfl, hC, hg, hn, ht, k⟩ := h
    have hC0 := hC
    obtain ⟨⟨dx, rv, fa, sa, vs, h1, h2, h3, h4, T⟩, hL⟩ := hC
    refine ⟨_, pss_cons (ps_asg (pe_mt m__small_sums hr (by omega) (pv 0) (pa_cons (pv 3) pa_nil)) (kgTup K (n := 2) rfl (pgs_cons (pg_name (i := 4) scCenB.nd rfl (Or.inl rfl)) (pgs_cons (pg_name (i := 5) scCenB.nd rfl (Or.inl rfl)) pgs_nil))))
      (pss_one (ps_ret (pe_tup (pa_cons (pe_op op_mulW (pv 1) (pe_op op_add pe_int (pv 4))) (pa_cons (pe_op op_add (pe_op op_mulW (pe_op op_add (pv 2) (pe_op op_mulW (pv 1) (kFld K (pv 0)))) (pe_op op_add pe_int (pv 4))) (pe_op op_mulW (pv 1) (pv 5))) pa_nil))))), ?_⟩
    have hvv : ∀ m ∈ ms, 2 ≤ m.v := fun m hm => (hg.m m hm).lo
    obtain ⟨b1, b0⟩ := bmax_le hg
    walk_at "go"
    refine methC hC0 (fun _ _ _ _ _ => rfl) ?_
    walk_at "rd"
    refine ⟨c, r, rs, ms, cs, L, rfl, hC0, fun t1 ht1 => ?_⟩
    have a1 := sA_le (WN rs ms cs) (min r L)
    have a2 := sT_le (f := WN rs ms cs) (WN_le cs hvv) (min r L)
    have a3 : sT (WN rs ms cs) (min r L) ≤ 100000 * 100000 := Nat.le_trans a2 (Nat.mul_le_mul (by omega) (by omega))
    have a4 : sA (WN rs ms cs) (min r L) ≤ 100000 := by omega
    have o1 := ownE_le ms cs
    generalize sA (WN rs ms cs) (min r L) = A' at *
    generalize sT (WN rs ms cs) (min r L) = T' at *
    generalize ownE ms cs = o at *
    have wA : ((1 : Int) + ((A' : Nat) : Int)).natAbs < 2 ^ 40 := by show _ < 1099511627776; omega
    have wT : ((T' : Nat) : Int).natAbs < 2 ^ 40 := by show _ < 1099511627776; omega
    have wo : ((o : Nat) : Int).natAbs < 2 ^ 1 := by show _ < 2; omega
    have no : n * o ≤ n := by
      rcases (show o = 0 ∨ o = 1 by omega) with z | z
      · rw [z]; omega
      · rw [z]; omega
    have p1 : (2 : Nat) ^ 10000 ≤ 2 ^ 20000 := Nat.pow_le_pow_right (by decide) (by decide)
    have p2 : (2 : Nat) ^ 20001 = 2 ^ 20000 + 2 ^ 20000 := by rw [show (20001 : Nat) = 20000 + 1 by rfl, Nat.pow_succ]; generalize (2 : Nat) ^ 20000 = z; omega
    have w3 : (((t : Nat) : Int) + ((n : Nat) : Int) * ((o : Nat) : Int)).natAbs < 2 ^ 20001 := by
      rw [show ((t : Nat) : Int) + ((n : Nat) : Int) * ((o : Nat) : Int) = ((t + n * o : Nat) : Int) by push_cast; rfl]
      refine two_pow ?_
      rw [p2]
      generalize (2 : Nat) ^ 20000 = z at *
      generalize (2 : Nat) ^ 10000 = z' at *
      omega
    refine R.gtup (SqT.of ht1) rfl ?_
    walk_at "rd"
    refine R.ic (wide_mul (two_pow hn) wA (by decide) (by decide) (by decide)) ?_
    walk_at "rd"
    refine R.fldE h1 TC.cl TC.nO rfl ?_
    walk_at "rd"
    refine R.ic (wide_mul (two_pow hn) wo (by decide) (by decide) (by decide)) ?_
    walk_at "rd"
    refine R.ic (wide_mul w3 wA (by decide) (by decide) (by decide)) ?_
    walk_at "rd"
    refine R.ic (wide_mul (two_pow hn) wT (by decide) (by decide) (by decide)) ?_
    walk_at "rd"
    refine ⟨by decide, fun p hp => k _ p (same_new (Same.refl _) hp) ?_⟩
    rw [upd_same]
    push_cast
    rfl
end
end KN
end
section
set_option Elab.async false
set_option linter.all false
set_option maxRecDepth 100000
set_option maxHeartbeats 4000000
set_option pp.maxSteps 1500
set_option pp.deepTerms false
local macro_rules | `(tactic| walk_at "ne") => `(tactic| first
  | assumption | (apply Ne.symm; assumption)
  | exact R.ne_new (by assumption) | exact (R.ne_new (by assumption)).symm
  | exact L2.ne_of_none (by assumption) (by assumption) | exact (L2.ne_of_none (by assumption) (by assumption)).symm
  | exact L2.ne_of_none (by assumption) (R.free_new (by assumption)) | exact (L2.ne_of_none (by assumption) (R.free_new (by assumption))).symm)
local macro_rules | `(tactic| walk_at "at") => `(tactic| first
  | assumption | exact L2.upd_same
  | (refine R.sb (H := ?H) (p := ?p) ?e ?n ?h; (case e => assumption); (case n => walk_at "ne"); (case h => walk_at "at"))
  | (refine R.sm (H := ?H) ?e ?h; (case e => assumption); (case h => walk_at "at"))
  | (refine Eq.trans (L2.upd_ne ?_) ?_ <;> first | walk_at "ne" | walk_at "at"))
local macro_rules | `(tactic| walk_at "sqt") => `(tactic| first | assumption | (refine L2.SqT.of ?_; walk_at "at"))
local macro_rules | `(tactic| walk_at "ty") => `(tactic| first | exact R.tyN | exact R.tyB | exact R.tyI | exact R.tyS | (refine R.tyT (xs := ?xs) ?h; case h => walk_at "at") | (refine R.tyL (xs := ?xs) ?h; case h => walk_at "at"))
local macro_rules | `(tactic| walk_at "kit") => `(tactic| first | exact R.kit_NoneType_tuple | exact R.kit_NoneType_list | exact R.kit_NoneType_bool | exact R.kit_NoneType_str | exact R.kit_NoneType_int | exact R.kit_bool_tuple | exact R.kit_bool_list | exact R.kit_bool_bool | exact R.kit_bool_str | exact R.kit_bool_int | exact R.kit_int_tuple | exact R.kit_int_list | exact R.kit_int_bool | exact R.kit_int_str | exact R.kit_int_int | exact R.kit_str_tuple | exact R.kit_str_list | exact R.kit_str_bool | exact R.kit_str_str | exact R.kit_str_int | exact R.kit_tuple_tuple | exact R.kit_tuple_list | exact R.kit_tuple_bool | exact R.kit_tuple_str | exact R.kit_tuple_int | exact R.kit_list_tuple | exact R.kit_list_list | exact R.kit_list_bool | exact R.kit_list_str | exact R.kit_list_int)
local macro_rules | `(tactic| walk_at "sz") => `(tactic| first | assumption | (refine Nat.le_trans ?_ (show 1000 ≤ PySem.sizeLine by decide); omega) | decide)
local macro_rules | `(tactic| walk_at "szl") => `(tactic| first | assumption | exact Nat.le_of_lt (L2.small1000 (by omega)) | decide | decide +kernel)
local macro_rules | `(tactic| walk_at "sys") => `(tactic| first | assumption | exact KN.SysAt.same (by assumption) (by assumption))
local macro_rules | `(tactic| walk_at "dk") => `(tactic| first | exact R.rowsS _ _ | exact R.rowsM _ _)
local macro_rules | `(tactic| walk_at "sqa") => `(tactic| first | assumption | exact R.SeqA.same (by assumption) (by assumption) | exact R.SeqA.new (by assumption) (by assumption) | (exact Or.inl (by walk_at "at")) | (exact Or.inr (by walk_at "at")))
local macro_rules | `(tactic| walk_at "ix") => `(tactic| first | rfl | (exact L2.atI_nat (by assumption)) | assumption)
local macro_rules | `(tactic| walk_at "cond") => `(tactic| first
  | exact Or.inl (by decide) | exact Or.inr (by decide) | exact Or.inl ⟨by omega, by omega⟩ | exact Or.inr ⟨by omega, by omega⟩
  | (constructor <;> omega) | (show _ ≠ _; omega) | decide | omega)
local macro_rules | `(tactic| walk_at "r1") => `(tactic| first
  | with_reducible refine R.seq ?_ | with_reducible refine R.asg ?_ | with_reducible refine R.ifs ?_ | with_reducible refine R.ret ?_ | with_reducible refine R.retN ?_ | with_reducible refine R.drop ?_ | with_reducible refine R.next ?_
  | with_reducible refine R.op ?_ | ((with_reducible refine R.var (v := ?v) ?h ?q); case h => rfl) | with_reducible refine R.c ?_ | with_reducible refine R.tst ?_ | with_reducible refine R.tb_ ?_ | with_reducible refine R.ex ?_
  | with_reducible refine R.i0 ?_ | with_reducible refine R.eqI ?_ | with_reducible refine R.neI ?_ | ((with_reducible refine R.ic ?_ ?_); · walk_at "cond") | with_reducible refine R.u0 ?_ | with_reducible refine R.un ?_
  | ((with_reducible refine R.eq ?_ ?_); · rfl) | ((with_reducible refine R.ne ?_ ?_); · rfl)
  | with_reducible refine R.and_ ?_ | with_reducible refine R.or_ ?_ | with_reducible refine R.not_ ?_ | with_reducible refine R.ife ?_ | with_reducible refine R.chain ?_
  | with_reducible refine R.cons ?_ | with_reducible refine R.nil ?_ | with_reducible refine R.call ?_ | with_reducible refine R.cb ?_ | with_reducible refine R.bm ?_
  | with_reducible refine R.gname ?_ | with_reducible refine R.gsub ?_ | with_reducible refine R.gnil ?_ | with_reducible refine R.gcons ?_ | with_reducible refine R.yes ?_
  | with_reducible refine R.int1 ?_ | ((with_reducible refine R.lenL (xs := ?xs) ?h ?q); case h => walk_at "at")
  | ((with_reducible refine R.ixL (xs := ?xs) (v := ?v) ?h ?e ?q); (case h => walk_at "at"); (case e => walk_at "ix"))
  | ((with_reducible refine R.setL (xs := ?xs) (n := ?n) ?h ?e ?q); (case h => walk_at "at"); (case e => rfl))
  | ((with_reducible refine R.append (xs := ?xs) ?h ?e ?q); (case h => walk_at "at"); (case e => walk_at "cond"))
  | with_reducible refine R.is_ ?_ | with_reducible refine R.isnot ?_ | with_reducible refine R.andV ?_ | with_reducible refine R.orV ?_ | with_reducible refine R.notV ?_
  | ((with_reducible refine R.isi (s := ?s) (b := ?b) ?ty ?h ?q); (case ty => walk_at "ty"); (case h => walk_at "kit"))
  | ((with_reducible refine R.addS ?h ?q); (case h => walk_at "sz")) | with_reducible refine R.max2 ?_ | with_reducible refine R.min2 ?_
  | ((with_reducible refine R.lenStr ?h ?q); (case h => walk_at "szl")) | ((with_reducible refine R.ixS (n := ?n) ?h ?e ?q); (case h => walk_at "szl"); (case e => walk_at "ix"))
  | ((with_reducible refine R.tyl (xs := ?xs) ?h ?q); (case h => walk_at "at")) | with_reducible refine R.itlist ?_ | with_reducible refine R.ittup ?_ | with_reducible refine R.m1 ?_ | with_reducible refine R.m1s ?_ | with_reducible refine R.leS ?_ | with_reducible refine R.itstr ?_ | with_reducible refine R.itstrE ?_ | with_reducible refine R.lc ?_ | with_reducible refine R.lc2 ?_ | with_reducible refine R.ckw ?_ | with_reducible refine R.par ?_ | with_reducible refine R.parE ?_ | with_reducible refine R.itrev ?_ | with_reducible refine R.dsetd ?_ | with_reducible refine R.dnotin_ ?_ | with_reducible refine R.for_ ?_ | ((with_reducible refine R.all_ (bs := ?bs) ?h ?q); (case h => walk_at "at"))
  | with_reducible refine R.rng1 ?_ | ((with_reducible refine R.rngE ?h ?q); (case h => (constructor <;> omega)))
  | ((with_reducible refine R.lenT (xs := ?xs) ?h ?q); (case h => walk_at "sqt")) | ((with_reducible refine R.ixT (xs := ?xs) (v := ?v) ?h ?e ?q); (case h => walk_at "sqt"); (case e => walk_at "ix"))
  | ((refine R.itlE (xs := ?xs) ?h ?q); (case h => walk_at "at")) | ((refine R.ittE (xs := ?xs) ?h ?q); (case h => walk_at "at"))
  | ((refine R.gseq (xs := ?xs) ?h ?e ?q); (case h => walk_at "sqa"); (case e => rfl)) | ((refine R.ixA (xs := ?xs) (v := ?v) ?h ?e ?q); (case h => walk_at "sqa"); (case e => walk_at "ix")) | ((refine R.lenA (xs := ?xs) ?h ?q); (case h => walk_at "sqa"))
  | ((with_reducible refine R.gtup (xs := ?xs) ?h ?e ?q); (case h => walk_at "sqt"); (case e => rfl))
  | with_reducible refine R.din_ ?_ | with_reducible refine R.dput_ ?_
  | with_reducible refine R.dget2_ ?_ | ((with_reducible refine R.aug_ (x := ?x) ?h ?q); case h => rfl) | with_reducible refine R.ipI_ ?_
  | with_reducible refine R.rng2 ?_ | ((with_reducible refine R.rngE2 ?h ?q); (case h => (refine ⟨?_, ?_, ?_, ?_⟩ <;> omega)))
  | with_reducible refine R.brk ?_ | with_reducible refine R.intB ?_ | with_reducible refine R.meth_ ?_ | ((refine KN.methS (rs := ?rs) (ms := ?ms) ?h (fun _ _ _ _ => rfl) ?q); case h => walk_at "sys")
  | with_reducible refine R.sl_ ?_ | with_reducible refine R.np_ ?_ | with_reducible refine R.pt_ ?_ | with_reducible refine R.ptE ?_ | with_reducible refine R.dget_ ?_ | with_reducible refine R.revL_ ?_
  | ((refine R.dgetS (kvs := ?kvs) (v := ?v) ?h ?e ?q); (case h => walk_at "at"); (case e => walk_at "dk"))
  | with_reducible refine R.sfld ?_ | with_reducible refine R.fld_ ?_ | with_reducible refine R.dc ?_
  | with_reducible refine R.dget1_ ?_
  | with_reducible refine R.itseq ?_ | with_reducible refine R.itenum ?_
  | with_reducible refine R.itT ?_ | with_reducible refine R.itF ?_ | with_reducible refine R.itNT ?_ | with_reducible refine R.itNF ?_
  | (with_reducible refine R.tup ?_) | (with_reducible refine R.lst ?_))
local macro_rules | `(tactic| walk_at "rd") => `(tactic| (repeat (first | walk_at "r1" | (dsimp only [Int.reduceToNat, List.set_cons_succ, List.set_cons_zero, List.length_cons, List.length_nil, List.nil_append, List.cons_append, List.append_nil]))))
local macro_rules | `(tactic| walk_at "go") => `(tactic| (rw [R.start_eq]; dsimp only [R.startE, List.map_nil]; walk_at "rd"))
local macro_rules | `(tactic| walk_at "r1") => `(tactic| first | with_reducible refine R.callN ?_ | with_reducible refine R.tr_ ?_ | with_reducible refine R.rng3 ?_ | with_reducible refine R.bits ?_ | with_reducible refine R.dnewT ?_)
-- RTX
namespace KN
open PySem L2 SX R
open C8 (Cal Def cal0 pe_c pe_gc fnScope fnBody pss_cut Met met0 pe_mt pe_mt0)
section
variable {P : Program} {w : World} {K : PySem.W.Frag} {mg : Str → Option Value} {base : Heap}
abbrev sCenE : Stmt := inClass (top 5) 6
theorem scCenE : FnScope ["self", "count", "sums", "words", "rest", "many", "total", "one", "ahead", "before", "last"] ["self", "count", "sums", "words", "rest"] (fnScope sCenE) := ⟨rfl, rfl, rfl, by decide +kernel, rfl, by decide +kernel, by decide +kernel⟩
section
variable {f : Nat → Option Nat} {V R own : Nat} {u : Bool}
theorem upE_none (f0 : f 0 = some 0) (v1 : 1 ≤ V) (hR : R < V) {c ρ : Nat} (c1 : 1 ≤ c) (hρ : ρ < V) (h : ahE f u c = none) : sA (eE f V R own u) (c * V + ρ) = sA (ahE f u) c * (1 + sA f R) ∧ sT (eE f V R own u) (c * V + ρ) = (sT (ahE f u) c + sA (ahE f u) c * own) * (1 + sA f R) + sA (ahE f u) c * sT f R := by
  obtain ⟨a, b⟩ := eE_sum (own := own) (u := u) f0 v1 hR c ρ hρ
  cases c with
  | zero => omega
  | succ c =>
    have hc : ¬ (c + 1 = 0) := by omega
    have ba : blA f R u (c + 1) ρ = 0 := by unfold blA; rw [h]; rfl
    have bt : blT f R own u (c + 1) ρ = 0 := by unfold blT; rw [h]
    have ea : sA (ahE f u) (c + 1) = sA (ahE f u) c := by show sA (ahE f u) c + (if (ahE f u (c + 1)).isSome = true then 1 else 0) = _; rw [h]; rfl
    have et : sT (ahE f u) (c + 1) = sT (ahE f u) c := by show sT (ahE f u) c + (ahE f u (c + 1)).getD 0 = _; rw [h]; rfl
    rw [if_neg hc, ba, Nat.add_zero] at a
    rw [if_neg hc, bt, Nat.add_zero] at b
    rw [ea, et]
    exact ⟨a, b⟩
theorem upE_some (f0 : f 0 = some 0) (v1 : 1 ≤ V) (hR : R < V) {c ρ a : Nat} (c1 : 1 ≤ c) (hρ : ρ < V) (h : ahE f u c = some a) : sA (eE f V R own u) (c * V + ρ) = sA (ahE f u) (c - 1) * (1 + sA f R) + 1 * (1 + sA f (min ρ R)) ∧
    sT (eE f V R own u) (c * V + ρ) = ((sT (ahE f u) (c - 1) + sA (ahE f u) (c - 1) * own) * (1 + sA f R) + sA (ahE f u) (c - 1) * sT f R) + ((a + 1 * own) * (1 + sA f (min ρ R)) + 1 * sT f (min ρ R)) := by
  obtain ⟨x, y⟩ := eE_sum (own := own) (u := u) f0 v1 hR c ρ hρ
  have hc : ¬ (c = 0) := by omega
  have ba : blA f R u c ρ = 1 + sA f (min ρ R) := by unfold blA; rw [h]; rfl
  have bt : blT f R own u c ρ = (a + own) * (1 + sA f (min ρ R)) + sT f (min ρ R) := by unfold blT; rw [h]
  rw [if_neg hc, ba] at x
  rw [if_neg hc, bt] at y
  rw [Nat.one_mul, Nat.one_mul, Nat.one_mul]
  exact ⟨x, y⟩
theorem ahE_step {c a : Nat} (c1 : 1 ≤ c) (h : ahE f u c = some a) : sA (ahE f u) c = sA (ahE f u) (c - 1) + 1 ∧ sT (ahE f u) c = sT (ahE f u) (c - 1) + a := by
  cases c with
  | zero => omega
  | succ c =>
    refine ⟨?_, ?_⟩
    · show sA (ahE f u) c + (if (ahE f u (c + 1)).isSome = true then 1 else 0) = _
      rw [h]; rfl
    · show sT (ahE f u) c + (ahE f u (c + 1)).getD 0 = _
      rw [h]; rfl
/-- the counts, where one is put in or taken out -/
theorem ahE_sum {c : Nat} (c1 : 1 ≤ c) : (sA (ahE f u) c : Int) = (if u = true ∧ (f 1).isSome = false then (sA f c : Int) + 1 else sA f c) ∧ (sT (ahE f u) c : Int) = (if u = true then (sT f c : Int) - ((f 1).getD 0 : Nat) else sT f c) := by
  cases c with
  | zero => omega
  | succ c =>
    cases u with
    | false =>
      rw [ahE_false, if_neg (fun h : false = true ∧ _ => Bool.false_ne_true h.1), if_neg Bool.false_ne_true]
      exact ⟨rfl, rfl⟩
    | true =>
      obtain ⟨a, b⟩ := ahE_true (f := f) c
      rw [if_pos rfl, a]
      refine ⟨?_, by omega⟩
      cases f 1 with
      | none => simp
      | some x => simp
end
theorem sm_row {rs : List SR} {ms : List MR} (cs : List Str) (g : GoodSys rs ms) {m : MR} (hm : endF ms = some m) {j : Nat} (h : j ≤ (bmax rs ms).toNat ∨ j < m.v.toNat) : sA (WN rs ms cs) (min j (bmax rs ms).toNat) = sA (WN rs ms cs) j ∧ sT (WN rs ms cs) (min j (bmax rs ms).toNat) = sT (WN rs ms cs) j ∧ (if j ≤ (bmax rs ms).toNat then WN rs ms cs j else none) = WN rs ms cs j := by
  by_cases z : j ≤ (bmax rs ms).toNat
  · rw [Nat.min_eq_left z, if_pos z]
    exact ⟨rfl, rfl, rfl⟩
  · have z2 : (bmax rs ms).toNat < j := by omega
    have z3 : j < m.v.toNat := by omega
    obtain ⟨a, b⟩ := s_none (f := WN rs ms cs) (b := (bmax rs ms).toNat) (n := j) (by omega) fun k h1 h2 => WN_mid cs g hm h1 (by omega)
    rw [Nat.min_eq_right (by omega), a, b, if_neg z]
    exact ⟨rfl, rfl, (WN_mid cs g hm z2 z3).symm⟩
theorem sm_none {rs : List SR} {ms : List MR} (cs : List Str) (g : GoodSys rs ms) (hm : endF ms = none) (j : Nat) : sA (WN rs ms cs) (min j (bmax rs ms).toNat) = sA (WN rs ms cs) j ∧ sT (WN rs ms cs) (min j (bmax rs ms).toNat) = sT (WN rs ms cs) j ∧ (if j ≤ (bmax rs ms).toNat then WN rs ms cs j else none) = WN rs ms cs j := by
  by_cases z : j ≤ (bmax rs ms).toNat
  · rw [Nat.min_eq_left z, if_pos z]
    exact ⟨rfl, rfl, rfl⟩
  · have z2 : (bmax rs ms).toNat < j := by omega
    obtain ⟨a, b⟩ := s_none (f := WN rs ms cs) (b := (bmax rs ms).toNat) (n := j) (by omega) fun k h1 h2 => WN_none cs g hm h1
    rw [Nat.min_eq_right (by omega), a, b, if_neg z]
    exact ⟨rfl, rfl, (WN_none cs g hm z2).symm⟩
theorem oV_some (a : Nat) : oV (some a) = V.int ((a : Nat) : Int) := rfl
def rowEE (rs : List SR) (ms : List MR) (cs : List Str) (m : MR) : Nat → Option Nat := eE (WN rs ms cs) m.v.toNat m.r.toNat (ownW cs m.w) m.u
theorem pw_le {a b c : Nat} (h : a < 2 ^ b) (q : b ≤ c) : a < 2 ^ c := Nat.lt_of_lt_of_le h (Nat.pow_le_pow_right (by decide) q)
theorem pw_sq {a b c d : Nat} (h : a ≤ b * b) (q : b < 2 ^ c) (e : c + c ≤ d) : a < 2 ^ d := Nat.lt_of_lt_of_le (Nat.lt_of_le_of_lt h (by have := Nat.mul_lt_mul'' q q; rwa [← Nat.pow_add] at this)) (Nat.pow_le_pow_right (by decide) e)
def spCE (C : Addr) : Sp := fun vs H Q _ => ∃ (c t : Addr) (k ρ : Nat) (wv : V) (rs : List SR) (ms : List MR) (cs : List Str) (m : MR), vs = [.ref c, .int (k : Nat), .ref t, wv, .int (ρ : Nat)] ∧ CenAt C H c rs ms cs (bmax rs ms).toNat ∧ GoodSys rs ms ∧ endF ms = some m ∧ H t = some (.tup [V.int (sA (WN rs ms cs) k : Nat), V.int (sT (WN rs ms cs) k : Nat)]) ∧ wv = oV (WN rs ms cs k) ∧ ρ < m.v.toNat ∧ k < 2 ^ 4000 ∧
  ∀ H' p, Same H H' → H' p = some (.tup [V.int (sA (rowEE rs ms cs m) (k * m.v.toNat + ρ) : Nat), V.int (sT (rowEE rs ms cs m) (k * m.v.toNat + ρ) : Nat)]) → Q (.ref p) H'
theorem m_endless_up (Z : Zs mg) {C : Addr} (TC : CenK K C) (m__small : Met P w K mg base 1 C "_small" (spCM C) []) (m__ahead : Met P w K mg base 1 C "_ahead" (spCA C) []) (m__block : Met P w K mg base 2 C "_block" (spCB C) []) {f : Addr} {fd : FuncData} (me : Meth K C "_endless_up_to" f) (F : C8.Fun K "_endless_up_to" "Census._endless_up_to" sCenE f fd) (b : Binds K fd ["self", "count", "sums", "words", "rest"] []) : Met P w K mg base 3 C "_endless_up_to" (spCE C) [] := by
  refine met0 TC.cl me F b scCenE (fun vs H Q E h => ?_) (fun cdv A outer s H vs Q E hr h => ?_)
  · obtain ⟨c, t, k, ρ, wv, rs, ms, cs, m, rfl, _⟩ := h
    rfl
  · obtain ⟨c, t, n, ρ, wv, rs, ms, cs, m, rfl, hC, hg, he, ht, rfl, hρ, hn, k⟩ := h
    have hC0 := hC
    obtain ⟨⟨dx, rv, fa, sa, vs, h1, h2, h3, h4, T⟩, hL⟩ := hC
    refine ⟨_, pss_cons (ps_if (pt_cmpR op_eq (pv 1) pe_int (nomark _))
        (pss_one (ps_ret (pe_tup (pa_cons pe_int (pa_cons pe_int pa_nil)))))
        (pss_nil))
      (pss_cons (ps_asg (pv 2) (kgTup K (n := 2) rfl (pgs_cons (pg_name (i := 5) scCenE.nd rfl (Or.inl rfl)) (pgs_cons (pg_name (i := 6) scCenE.nd rfl (Or.inl rfl)) pgs_nil))))
      (pss_cons (ps_set (i := 7) scCenE.nd rfl (Or.inl rfl) (pe_mt m__small hr (by omega) (pv 0) (pa_cons pe_int pa_nil)))
      (pss_cut (ps_if (pt_val (pe_ix (kIxT K) (kFld K (pv 0)) pe_int (fun _ _ => rfl)))
        (pss_one (ps_asg (pe_ifExp (pt_cmpR oIs (pv 7) pe_non (nomark _)) (pe_tup (pa_cons (pe_op op_add (pv 5) pe_int) (pa_cons (pv 6) pa_nil))) (pe_tup (pa_cons (pv 5) (pa_cons (pe_op op_sub (pv 6) (pv 7)) pa_nil)))) (kgTup K (n := 2) rfl (pgs_cons (pg_name (i := 5) scCenE.nd rfl (Or.inl rfl)) (pgs_cons (pg_name (i := 6) scCenE.nd rfl (Or.inl rfl)) pgs_nil)))))
        (pss_nil))
      (pss_cons (ps_set (i := 8) scCenE.nd rfl (Or.inl rfl) (pe_mt m__ahead hr (by omega) (pv 0) (pa_cons (pv 1) (pa_cons (pv 3) pa_nil))))
      (pss_cons (ps_if (pt_cmpR oIs (pv 8) pe_non (nomark _))
        (pss_one (ps_ret (pe_mt m__block hr (by omega) (pv 0) (pa_cons (pv 5) (pa_cons (pv 6) (pa_cons (pe_ix (kIxT K) (kFld K (pv 0)) pe_int (fun _ _ => rfl)) pa_nil))))))
        (pss_nil))
      (pss_cons (ps_set (i := 9) scCenE.nd rfl (Or.inl rfl) (pe_mt m__block hr (by omega) (pv 0) (pa_cons (pe_op op_sub (pv 5) pe_int) (pa_cons (pe_op op_sub (pv 6) (pv 8)) (pa_cons (pe_ix (kIxT K) (kFld K (pv 0)) pe_int (fun _ _ => rfl)) pa_nil)))))
      (pss_cons (ps_set (i := 10) scCenE.nd rfl (Or.inl rfl) (pe_mt m__block hr (by omega) (pv 0) (pa_cons pe_int (pa_cons (pv 8) (pa_cons (pe_callB kMin2 (by rfl) Z.min (by decide +kernel) (pa_cons (pv 4) (pa_cons (pe_ix (kIxT K) (kFld K (pv 0)) pe_int (fun _ _ => rfl)) pa_nil))) pa_nil)))))
      (pss_one (ps_ret (pe_tup (pa_cons (pe_op op_add (pe_ix (kIxT K) (pv 9) pe_int (fun _ _ => rfl)) (pe_ix (kIxT K) (pv 10) pe_int (fun _ _ => rfl))) (pa_cons (pe_op op_add (pe_ix (kIxT K) (pv 9) pe_int (fun _ _ => rfl)) (pe_ix (kIxT K) (pv 10) pe_int (fun _ _ => rfl))) pa_nil)))))))))))), ?_⟩
    have hvv : ∀ m ∈ ms, 2 ≤ m.v := fun m hm => (hg.m m hm).lo
    have hm := List.mem_of_find?_eq_some he
    have gm := hg.m m hm
    have lo := gm.lo
    have hr9 := gm.r1
    obtain ⟨b1, b0⟩ := bmax_le hg
    obtain ⟨rb, rfl, hb⟩ := h2.some he
    walk_at "go"
    have eR : m.r = ((m.r.toNat : Nat) : Int) := (Int.toNat_of_nonneg gm.r0).symm
    have v1 : 1 ≤ m.v.toNat := by omega
    have hRV : m.r.toNat < m.v.toNat := by omega
    have f0 := WN_zero (rs := rs) (ms := ms) cs
    have oe : ownE ms cs = ownW cs m.w := by unfold ownE; rw [he]
    refine it (fun hz => ?_) (fun hz => ?_)
    · walk_at "rd"
      have n0 : n = 0 := by omega
      subst n0
      obtain ⟨e1, e2⟩ := eE_sum (own := ownW cs m.w) (u := m.u) f0 v1 hRV 0 ρ hρ
      refine ⟨by decide, fun p hp => k _ p (same_new (Same.refl _) hp) ?_⟩
      rw [upd_same]
      unfold rowEE
      rw [e1, e2, if_pos rfl, if_pos rfl]
      show _ = some (HO.tup [V.int ((0 * _ + 0 : Nat) : Int), V.int (((0 + 0 * _) * _ + 0 * _ + 0 : Nat) : Int)])
      rw [Nat.zero_mul, Nat.zero_mul, Nat.zero_mul, Nat.zero_mul]
      rfl
    · have n1 : 1 ≤ n := by omega
      obtain ⟨eA, eT⟩ := ahE_sum (f := WN rs ms cs) (u := m.u) n1
      have one : (if 1 ≤ (bmax rs ms).toNat then WN rs ms cs 1 else none) = WN rs ms cs 1 := (sm_row cs hg he (j := 1) (.inr (by omega))).2.2
      walk_at "rd"
      refine methC hC0 (fun _ _ _ _ _ => rfl) ?_
      walk_at "rd"
      refine ⟨c, 1, rs, ms, cs, _, rfl, hC0, ?_⟩
      rw [one]
      walk_at "rd"
      refine R.cut (fun σ' H' => ∃ q7, σ' = [some (.ref c), some (.int (n : Nat)), some (.ref t), some (oV (WN rs ms cs n)), some (.int (ρ : Nat)), some (.int (sA (ahE (WN rs ms cs) m.u) n : Nat)), some (.int (sT (ahE (WN rs ms cs) m.u) n : Nat)), q7, none, none, none] ∧ Same H H') ?_ ?_
      · walk_at "rd"
        refine R.fldE h1 TC.cl TC.nR rfl ?_
        walk_at "rd"
        by_cases hu : m.u = true
        · rw [if_pos hu] at eT
          rw [if_pos hu]
          walk_at "rd"
          cases h1w : WN rs ms cs 1 with
          | none =>
            rw [h1w, if_pos (show m.u = true ∧ (none : Option Nat).isSome = false from ⟨hu, rfl⟩)] at eA
            rw [h1w] at eT
            refine itY rfl ?_
            walk_at "rd"
            refine ⟨by decide, fun p hp => R.gen hp fun G g1 g2 => ?_⟩
            walk_at "rd"
            refine ⟨some .non, ?_, g1⟩
            rw [eA, eT, show ((none : Option Nat).getD 0 : Nat) = 0 by rfl, Int.natCast_zero, Int.sub_zero]
            rfl
          | some a =>
            rw [h1w, if_neg (fun z : m.u = true ∧ (some a).isSome = false => nomatch z.2)] at eA
            rw [h1w] at eT
            rw [oV_some]
            refine itN (fun q => nomatch (show V.int _ = V.non from q)) ?_
            walk_at "rd"
            refine ⟨by decide, fun p hp => R.gen hp fun G g1 g2 => ?_⟩
            walk_at "rd"
            refine ⟨some (.int (a : Nat)), ?_, g1⟩
            rw [eA, eT, show ((some a).getD 0 : Nat) = a by rfl]
            rfl
        · rw [if_neg (fun z : m.u = true ∧ (WN rs ms cs 1).isSome = false => hu z.1)] at eA
          rw [if_neg hu] at eT
          rw [if_neg hu]
          walk_at "rd"
          refine ⟨some (oV (WN rs ms cs 1)), ?_, Same.refl _⟩
          rw [eA, eT]
          rfl
      · rintro σ1 H1 ⟨q7, rfl, s1⟩
        have hC1 := hC0.same s1
        walk_at "rd"
        refine methC hC1 (fun _ _ _ _ _ => rfl) ?_
        walk_at "rd"
        refine ⟨c, _, _, rs, ms, cs, _, m, rfl, hC1, he, ?_⟩
        have ea : (if ((n : Nat) : Int) = 1 ∧ m.u = true then V.int 0 else oV (WN rs ms cs n)) = oV (ahE (WN rs ms cs) m.u n) := by
          unfold ahE
          by_cases z : n = 1 ∧ m.u = true
          · rw [if_pos z, if_pos ⟨by omega, z.2⟩]; rfl
          · rw [if_neg z, if_neg (fun w => z ⟨by omega, w.2⟩)]
        rw [ea]
        walk_at "rd"
        have aLe : sA (ahE (WN rs ms cs) m.u) n ≤ n := sA_le _ _
        have tLe : sT (ahE (WN rs ms cs) m.u) n ≤ n * n := sT_le (fun a b h => by
          unfold ahE at h
          split at h
          · cases h; exact Nat.zero_le _
          · exact WN_le cs hvv _ _ h) _
        have hC2 := hC1
        obtain ⟨⟨dx', rv', fa', sa', vs', g1, g2, g3, g4, T'⟩, hL'⟩ := hC2
        obtain ⟨rb', rfl, hb'⟩ := g2.some he
        obtain ⟨q1, q2, _⟩ := sm_row cs hg he (j := m.r.toNat) (.inr hRV)
        cases ha : ahE (WN rs ms cs) m.u n with
        | none =>
          obtain ⟨e1, e2⟩ := upE_none (own := ownW cs m.w) f0 v1 hRV n1 hρ ha
          refine itY rfl ?_
          walk_at "rd"
          refine methC hC1 (fun _ _ _ _ _ => rfl) ?_
          walk_at "rd"
          refine R.fldE g1 TC.cl TC.nR rfl ?_
          walk_at "rd"
          rw [eR]
          refine ⟨c, _, _, m.r.toNat, rs, ms, cs, _, rfl, hC1, hg, pw_le (Nat.lt_of_le_of_lt aLe hn) (by decide), pw_sq tLe hn (by decide), fun H2 p s2 h2 => k H2 p (s1.trans s2) ?_⟩
          rw [h2, q1, q2, oe]
          unfold rowEE
          rw [e1, e2]
        | some a =>
          obtain ⟨e1, e2⟩ := upE_some (own := ownW cs m.w) f0 v1 hRV n1 hρ ha
          obtain ⟨x1, x2⟩ := ahE_step n1 ha
          obtain ⟨q3, q4, _⟩ := sm_row cs hg he (j := min ρ m.r.toNat) (.inr (by omega))
          rw [oV_some]
          refine itN (fun q => nomatch (show V.int _ = V.non from q)) ?_
          walk_at "rd"
          refine methC hC1 (fun _ _ _ _ _ => rfl) ?_
          walk_at "rd"
          refine R.fldE g1 TC.cl TC.nR rfl ?_
          walk_at "rd"
          rw [eR, show ((sA (ahE (WN rs ms cs) m.u) n : Nat) : Int) - 1 = ((sA (ahE (WN rs ms cs) m.u) (n - 1) : Nat) : Int) by omega, show ((sT (ahE (WN rs ms cs) m.u) n : Nat) : Int) - ((a : Nat) : Int) = ((sT (ahE (WN rs ms cs) m.u) (n - 1) : Nat) : Int) by omega]
          refine ⟨c, _, _, m.r.toNat, rs, ms, cs, _, rfl, hC1, hg, pw_le (Nat.lt_of_le_of_lt (show _ ≤ n by omega) hn) (by decide), pw_sq (show _ ≤ n * n by omega) hn (by decide), fun H2 p s2 h2 => ?_⟩
          rw [q1, q2, oe] at h2
          have hC2 := hC1.same s2
          have g12 := s2 _ _ g1
          have hb2 := s2 _ _ hb'
          walk_at "rd"
          refine methC hC2 (fun _ _ _ _ _ => rfl) ?_
          walk_at "rd"
          refine R.fldE g12 TC.cl TC.nR rfl ?_
          walk_at "rd"
          have em : (if m.r < ((ρ : Nat) : Int) then m.r else ((ρ : Nat) : Int)) = ((min ρ m.r.toNat : Nat) : Int) := by split <;> omega
          rw [em]
          refine ⟨c, 1, a, _, rs, ms, cs, _, rfl, hC2, hg, Nat.one_lt_two_pow (by decide), pw_sq (show a ≤ n * n by omega) hn (by decide), fun H3 p3 s3 h3 => ?_⟩
          rw [q3, q4, oe] at h3
          have h32 := s3 _ _ h2
          walk_at "rd"
          refine ⟨by decide, fun p4 hp4 => k _ p4 (same_new ((s1.trans s2).trans s3) hp4) ?_⟩
          rw [upd_same]
          unfold rowEE
          rw [e1, e2]
          push_cast
          rfl
end
end KN
end
section
set_option Elab.async false
set_option linter.all false
set_option maxRecDepth 100000
set_option maxHeartbeats 4000000
set_option pp.maxSteps 1500
set_option pp.deepTerms false
local macro_rules | `(tactic| walk_at "ne") => `(tactic| first
  | assumption | (apply Ne.symm; assumption)
  | exact R.ne_new (by assumption) | exact (R.ne_new (by assumption)).symm
  | exact L2.ne_of_none (by assumption) (by assumption) | exact (L2.ne_of_none (by assumption) (by assumption)).symm
  | exact L2.ne_of_none (by assumption) (R.free_new (by assumption)) | exact (L2.ne_of_none (by assumption) (R.free_new (by assumption))).symm)
local macro_rules | `(tactic| walk_at "at") => `(tactic| first
  | assumption | exact L2.upd_same
  | (refine R.sb (H := ?H) (p := ?p) ?e ?n ?h; (case e => assumption); (case n => walk_at "ne"); (case h => walk_at "at"))
  | (refine R.sm (H := ?H) ?e ?h; (case e => assumption); (case h => walk_at "at"))
  | (refine Eq.trans (L2.upd_ne ?_) ?_ <;> first | walk_at "ne" | walk_at "at"))
local macro_rules | `(tactic| walk_at "sqt") => `(tactic| first | assumption | (refine L2.SqT.of ?_; walk_at "at"))
local macro_rules | `(tactic| walk_at "ty") => `(tactic| first | exact R.tyN | exact R.tyB | exact R.tyI | exact R.tyS | (refine R.tyT (xs := ?xs) ?h; case h => walk_at "at") | (refine R.tyL (xs := ?xs) ?h; case h => walk_at "at"))
local macro_rules | `(tactic| walk_at "kit") => `(tactic| first | exact R.kit_NoneType_tuple | exact R.kit_NoneType_list | exact R.kit_NoneType_bool | exact R.kit_NoneType_str | exact R.kit_NoneType_int | exact R.kit_bool_tuple | exact R.kit_bool_list | exact R.kit_bool_bool | exact R.kit_bool_str | exact R.kit_bool_int | exact R.kit_int_tuple | exact R.kit_int_list | exact R.kit_int_bool | exact R.kit_int_str | exact R.kit_int_int | exact R.kit_str_tuple | exact R.kit_str_list | exact R.kit_str_bool | exact R.kit_str_str | exact R.kit_str_int | exact R.kit_tuple_tuple | exact R.kit_tuple_list | exact R.kit_tuple_bool | exact R.kit_tuple_str | exact R.kit_tuple_int | exact R.kit_list_tuple | exact R.kit_list_list | exact R.kit_list_bool | exact R.kit_list_str | exact R.kit_list_int)
local macro_rules | `(tactic| walk_at "sz") => `(tactic| first | assumption | (refine Nat.le_trans ?_ (show 1000 ≤ PySem.sizeLine by decide); omega) | decide)
local macro_rules | `(tactic| walk_at "szl") => `(tactic| first | assumption | exact Nat.le_of_lt (L2.small1000 (by omega)) | decide | decide +kernel)
local macro_rules | `(tactic| walk_at "sys") => `(tactic| first | assumption | exact KN.SysAt.same (by assumption) (by assumption))
local macro_rules | `(tactic| walk_at "dk") => `(tactic| first | exact R.rowsS _ _ | exact R.rowsM _ _)
local macro_rules | `(tactic| walk_at "sqa") => `(tactic| first | assumption | exact R.SeqA.same (by assumption) (by assumption) | exact R.SeqA.new (by assumption) (by assumption) | (exact Or.inl (by walk_at "at")) | (exact Or.inr (by walk_at "at")))
local macro_rules | `(tactic| walk_at "ix") => `(tactic| first | rfl | (exact L2.atI_nat (by assumption)) | assumption)
local macro_rules | `(tactic| walk_at "cond") => `(tactic| first
  | exact Or.inl (by decide) | exact Or.inr (by decide) | exact Or.inl ⟨by omega, by omega⟩ | exact Or.inr ⟨by omega, by omega⟩
  | (constructor <;> omega) | (show _ ≠ _; omega) | decide | omega)
local macro_rules | `(tactic| walk_at "r1") => `(tactic| first
  | with_reducible refine R.seq ?_ | with_reducible refine R.asg ?_ | with_reducible refine R.ifs ?_ | with_reducible refine R.ret ?_ | with_reducible refine R.retN ?_ | with_reducible refine R.drop ?_ | with_reducible refine R.next ?_
  | with_reducible refine R.op ?_ | ((with_reducible refine R.var (v := ?v) ?h ?q); case h => rfl) | with_reducible refine R.c ?_ | with_reducible refine R.tst ?_ | with_reducible refine R.tb_ ?_ | with_reducible refine R.ex ?_
  | with_reducible refine R.i0 ?_ | with_reducible refine R.eqI ?_ | with_reducible refine R.neI ?_ | ((with_reducible refine R.ic ?_ ?_); · walk_at "cond") | with_reducible refine R.u0 ?_ | with_reducible refine R.un ?_
  | ((with_reducible refine R.eq ?_ ?_); · rfl) | ((with_reducible refine R.ne ?_ ?_); · rfl)
  | with_reducible refine R.and_ ?_ | with_reducible refine R.or_ ?_ | with_reducible refine R.not_ ?_ | with_reducible refine R.ife ?_ | with_reducible refine R.chain ?_
  | with_reducible refine R.cons ?_ | with_reducible refine R.nil ?_ | with_reducible refine R.call ?_ | with_reducible refine R.cb ?_ | with_reducible refine R.bm ?_
  | with_reducible refine R.gname ?_ | with_reducible refine R.gsub ?_ | with_reducible refine R.gnil ?_ | with_reducible refine R.gcons ?_ | with_reducible refine R.yes ?_
  | with_reducible refine R.int1 ?_ | ((with_reducible refine R.lenL (xs := ?xs) ?h ?q); case h => walk_at "at")
  | ((with_reducible refine R.ixL (xs := ?xs) (v := ?v) ?h ?e ?q); (case h => walk_at "at"); (case e => walk_at "ix"))
  | ((with_reducible refine R.setL (xs := ?xs) (n := ?n) ?h ?e ?q); (case h => walk_at "at"); (case e => rfl))
  | ((with_reducible refine R.append (xs := ?xs) ?h ?e ?q); (case h => walk_at "at"); (case e => walk_at "cond"))
  | with_reducible refine R.is_ ?_ | with_reducible refine R.isnot ?_ | with_reducible refine R.andV ?_ | with_reducible refine R.orV ?_ | with_reducible refine R.notV ?_
  | ((with_reducible refine R.isi (s := ?s) (b := ?b) ?ty ?h ?q); (case ty => walk_at "ty"); (case h => walk_at "kit"))
  | ((with_reducible refine R.addS ?h ?q); (case h => walk_at "sz")) | with_reducible refine R.max2 ?_ | with_reducible refine R.min2 ?_
  | ((with_reducible refine R.lenStr ?h ?q); (case h => walk_at "szl")) | ((with_reducible refine R.ixS (n := ?n) ?h ?e ?q); (case h => walk_at "szl"); (case e => walk_at "ix"))
  | ((with_reducible refine R.tyl (xs := ?xs) ?h ?q); (case h => walk_at "at")) | with_reducible refine R.itlist ?_ | with_reducible refine R.ittup ?_ | with_reducible refine R.m1 ?_ | with_reducible refine R.m1s ?_ | with_reducible refine R.leS ?_ | with_reducible refine R.itstr ?_ | with_reducible refine R.itstrE ?_ | with_reducible refine R.lc ?_ | with_reducible refine R.lc2 ?_ | with_reducible refine R.ckw ?_ | with_reducible refine R.par ?_ | with_reducible refine R.parE ?_ | with_reducible refine R.itrev ?_ | with_reducible refine R.dsetd ?_ | with_reducible refine R.dnotin_ ?_ | with_reducible refine R.for_ ?_ | ((with_reducible refine R.all_ (bs := ?bs) ?h ?q); (case h => walk_at "at"))
  | with_reducible refine R.rng1 ?_ | ((with_reducible refine R.rngE ?h ?q); (case h => (constructor <;> omega)))
  | ((with_reducible refine R.lenT (xs := ?xs) ?h ?q); (case h => walk_at "sqt")) | ((with_reducible refine R.ixT (xs := ?xs) (v := ?v) ?h ?e ?q); (case h => walk_at "sqt"); (case e => walk_at "ix"))
  | ((refine R.itlE (xs := ?xs) ?h ?q); (case h => walk_at "at")) | ((refine R.ittE (xs := ?xs) ?h ?q); (case h => walk_at "at"))
  | ((refine R.gseq (xs := ?xs) ?h ?e ?q); (case h => walk_at "sqa"); (case e => rfl)) | ((refine R.ixA (xs := ?xs) (v := ?v) ?h ?e ?q); (case h => walk_at "sqa"); (case e => walk_at "ix")) | ((refine R.lenA (xs := ?xs) ?h ?q); (case h => walk_at "sqa"))
  | ((with_reducible refine R.gtup (xs := ?xs) ?h ?e ?q); (case h => walk_at "sqt"); (case e => rfl))
  | with_reducible refine R.din_ ?_ | with_reducible refine R.dput_ ?_
  | with_reducible refine R.dget2_ ?_ | ((with_reducible refine R.aug_ (x := ?x) ?h ?q); case h => rfl) | with_reducible refine R.ipI_ ?_
  | with_reducible refine R.rng2 ?_ | ((with_reducible refine R.rngE2 ?h ?q); (case h => (refine ⟨?_, ?_, ?_, ?_⟩ <;> omega)))
  | with_reducible refine R.brk ?_ | with_reducible refine R.intB ?_ | with_reducible refine R.meth_ ?_ | ((refine KN.methS (rs := ?rs) (ms := ?ms) ?h (fun _ _ _ _ => rfl) ?q); case h => walk_at "sys")
  | with_reducible refine R.sl_ ?_ | with_reducible refine R.np_ ?_ | with_reducible refine R.pt_ ?_ | with_reducible refine R.ptE ?_ | with_reducible refine R.dget_ ?_ | with_reducible refine R.revL_ ?_
  | ((refine R.dgetS (kvs := ?kvs) (v := ?v) ?h ?e ?q); (case h => walk_at "at"); (case e => walk_at "dk"))
  | with_reducible refine R.sfld ?_ | with_reducible refine R.fld_ ?_ | with_reducible refine R.dc ?_
  | with_reducible refine R.dget1_ ?_
  | with_reducible refine R.itseq ?_ | with_reducible refine R.itenum ?_
  | with_reducible refine R.itT ?_ | with_reducible refine R.itF ?_ | with_reducible refine R.itNT ?_ | with_reducible refine R.itNF ?_
  | (with_reducible refine R.tup ?_) | (with_reducible refine R.lst ?_))
local macro_rules | `(tactic| walk_at "rd") => `(tactic| (repeat (first | walk_at "r1" | (dsimp only [Int.reduceToNat, List.set_cons_succ, List.set_cons_zero, List.length_cons, List.length_nil, List.nil_append, List.cons_append, List.append_nil]))))
local macro_rules | `(tactic| walk_at "go") => `(tactic| (rw [R.start_eq]; dsimp only [R.startE, List.map_nil]; walk_at "rd"))
local macro_rules | `(tactic| walk_at "r1") => `(tactic| first | with_reducible refine R.callN ?_ | with_reducible refine R.tr_ ?_ | with_reducible refine R.rng3 ?_ | with_reducible refine R.bits ?_ | with_reducible refine R.dnewT ?_)
-- RTX
namespace KN
open PySem L2 SX R
open C8 (Cal Def cal0 pe_c pe_gc fnScope fnBody pss_cut Met met0 pe_mt pe_mt0)
section
variable {P : Program} {w : World} {K : PySem.W.Frag} {mg : Str → Option Value} {base : Heap}
abbrev sCenH : Stmt := inClass (top 5) 4
theorem scCenH : FnScope ["self", "count", "sums", "words", "rest", "_", "value", "greatest_rest", "many", "total", "head", "left", "bounded", "endless", "behind", "ahead", "found"] ["self", "count", "sums", "words", "rest"] (fnScope sCenH) := ⟨rfl, rfl, rfl, by decide +kernel, rfl, by decide +kernel, by decide +kernel⟩
def spCBh (C : Addr) : Sp := fun vs H Q _ => ∃ (c t : Addr) (k ρ : Nat) (wv : V) (rs : List SR) (ms : List MR) (cs : List Str) (m : MR), vs = [.ref c, .int (k : Nat), .ref t, wv, .int (ρ : Nat)] ∧ CenAt C H c rs ms cs (bmax rs ms).toNat ∧ GoodSys rs ms ∧ endF ms = some m ∧ H t = some (.tup [V.int (sA (WN rs ms cs) k : Nat), V.int (sT (WN rs ms cs) k : Nat)]) ∧ wv = oV (WN rs ms cs k) ∧ ρ < m.v.toNat ∧ 1 ≤ k ∧ k < 2 ^ 4000 ∧ (bmax rs ms).toNat < k * m.v.toNat + ρ ∧
  ∀ H' p t', Same H H' → H' p = some (.tup [.ref t', oV (WN rs ms cs (k * m.v.toNat + ρ))]) → H' t' = some (.tup [V.int (sA (WN rs ms cs) (k * m.v.toNat + ρ) : Nat), V.int (sT (WN rs ms cs) (k * m.v.toNat + ρ) : Nat)]) → Q (.ref p) H'
theorem m_behind (Z : Zs mg) {C : Addr} (TC : CenK K C) (m__small_sums : Met P w K mg base 1 C "_small_sums" (spCS C) []) (m__small : Met P w K mg base 1 C "_small" (spCM C) []) (m__ahead : Met P w K mg base 1 C "_ahead" (spCA C) []) (m__endless_up_to : Met P w K mg base 3 C "_endless_up_to" (spCE C) []) {f : Addr} {fd : FuncData} (me : Meth K C "_behind" f) (F : C8.Fun K "_behind" "Census._behind" sCenH f fd) (b : Binds K fd ["self", "count", "sums", "words", "rest"] []) : Met P w K mg base 4 C "_behind" (spCBh C) [] := by
  refine met0 TC.cl me F b scCenH (fun vs H Q E h => ?_) (fun cdv A outer s H vs Q E hr h => ?_)
  · obtain ⟨c, t, k, ρ, wv, rs, ms, cs, m, rfl, _⟩ := h
    rfl
  · obtain ⟨c, t, n, ρ, wv, rs, ms, cs, m, rfl, hC, hg, he, ht, rfl, hρ, n1, hn, hB, k⟩ := h
    have hC0 := hC
    obtain ⟨⟨dx, rv, fa, sa, vs, h1, h2, h3, h4, T⟩, hL⟩ := hC
    refine ⟨_, pss_cons (ps_asg (kFld K (pv 0)) (kgTup K (n := 5) rfl (pgs_cons (pg_name (i := 5) scCenH.nd rfl (Or.inl rfl)) (pgs_cons (pg_name (i := 6) scCenH.nd rfl (Or.inl rfl)) (pgs_cons (pg_name (i := 5) scCenH.nd rfl (Or.inl rfl)) (pgs_cons (pg_name (i := 5) scCenH.nd rfl (Or.inl rfl)) (pgs_cons (pg_name (i := 7) scCenH.nd rfl (Or.inl rfl)) pgs_nil)))))))
      (pss_cons (ps_asg (pe_mt m__small_sums hr (by omega) (pv 0) (pa_cons (kFld K (pv 0)) pa_nil)) (kgTup K (n := 2) rfl (pgs_cons (pg_name (i := 8) scCenH.nd rfl (Or.inl rfl)) (pgs_cons (pg_name (i := 9) scCenH.nd rfl (Or.inl rfl)) pgs_nil))))
      (pss_cons (ps_asg (pe_callB call_divmodW (by rfl) Z.divmod (by decide +kernel) (pa_cons (kFld K (pv 0)) (pa_cons (pv 6) pa_nil))) (kgTup K (n := 2) rfl (pgs_cons (pg_name (i := 10) scCenH.nd rfl (Or.inl rfl)) (pgs_cons (pg_name (i := 11) scCenH.nd rfl (Or.inl rfl)) pgs_nil))))
      (pss_cons (ps_set (i := 12) scCenH.nd rfl (Or.inl rfl) (pe_mt m__endless_up_to hr (by omega) (pv 0) (pa_cons (pv 10) (pa_cons (pe_mt m__small_sums hr (by omega) (pv 0) (pa_cons (pv 10) pa_nil)) (pa_cons (pe_mt m__small hr (by omega) (pv 0) (pa_cons (pv 10) pa_nil)) (pa_cons (pv 11) pa_nil))))))
      (pss_cons (ps_set (i := 13) scCenH.nd rfl (Or.inl rfl) (pe_mt m__endless_up_to hr (by omega) (pv 0) (pa_cons (pv 1) (pa_cons (pv 2) (pa_cons (pv 3) (pa_cons (pv 4) pa_nil))))))
      (pss_cons (ps_set (i := 14) scCenH.nd rfl (Or.inl rfl) (pe_mt m__small hr (by omega) (pv 0) (pa_cons (pv 4) pa_nil)))
      (pss_cons (ps_set (i := 15) scCenH.nd rfl (Or.inl rfl) (pe_mt m__ahead hr (by omega) (pv 0) (pa_cons (pv 1) (pa_cons (pv 3) pa_nil))))
      (pss_cut (ps_if (PW.pt (pw_or (pt_cmpR oIs (pv 15) pe_non (nomark _)) (pw_or (pt_cmpR oIs (pv 14) pe_non (nomark _)) (pw_or1 (pt_cmpR op_gt (pv 4) (pv 7) (nomark _))))))
        (pss_one (ps_set (i := 16) scCenH.nd rfl (Or.inl rfl) pe_non))
        (pss_one (ps_set (i := 16) scCenH.nd rfl (Or.inl rfl) (pe_op op_add (pe_op op_add (pv 15) (kFld K (pv 0))) (pv 14)))))
      (pss_one (ps_ret (pe_tup (pa_cons (pe_tup (pa_cons (pe_op op_sub (pe_op op_add (pv 8) (pe_ix (kIxT K) (pv 13) pe_int (fun _ _ => rfl))) (pe_ix (kIxT K) (pv 12) pe_int (fun _ _ => rfl))) (pa_cons (pe_op op_sub (pe_op op_add (pv 9) (pe_ix (kIxT K) (pv 13) pe_int (fun _ _ => rfl))) (pe_ix (kIxT K) (pv 12) pe_int (fun _ _ => rfl))) pa_nil))) (pa_cons (pv 16) pa_nil)))))))))))), ?_⟩
    have hvv : ∀ m ∈ ms, 2 ≤ m.v := fun m hm => (hg.m m hm).lo
    have hm := List.mem_of_find?_eq_some he
    have gm := hg.m m hm
    have lo := gm.lo
    have hr9 := gm.r1
    have hr8 := gm.r0
    obtain ⟨b1, b0⟩ := bmax_le hg
    obtain ⟨rb, rfl, hb⟩ := h2.some he
    have eB : bmax rs ms = (((bmax rs ms).toNat : Nat) : Int) := (Int.toNat_of_nonneg b0).symm
    have eV : m.v = ((m.v.toNat : Nat) : Int) := (Int.toNat_of_nonneg (by omega)).symm
    have oe : ownE ms cs = ownW cs m.w := by unfold ownE; rw [he]
    obtain ⟨y1, y2, _⟩ := sm_row cs hg he (j := (bmax rs ms).toNat) (.inl (Nat.le_refl _))
    walk_at "go"
    refine R.fldE h1 TC.cl TC.nR rfl ?_
    walk_at "rd"
    unfold mrV
    walk_at "rd"
    refine methC hC0 (fun _ _ _ _ _ => rfl) ?_
    walk_at "rd"
    refine R.fldE h1 TC.cl TC.nM rfl ?_
    walk_at "rd"
    rw [eB]
    refine ⟨c, _, rs, ms, cs, _, rfl, hC0, fun t1 ht1 => ?_⟩
    rw [y1, y2] at ht1
    walk_at "rd"
    refine R.fldE h1 TC.cl TC.nM rfl ?_
    walk_at "rd"
    have hq : (bmax rs ms).toNat / m.v.toNat ≤ (bmax rs ms).toNat := Nat.div_le_self _ _
    have hl : (bmax rs ms).toNat % m.v.toNat < m.v.toNat := Nat.mod_lt _ (by omega)
    have hdm : (bmax rs ms).toNat / m.v.toNat * m.v.toNat + (bmax rs ms).toNat % m.v.toNat = (bmax rs ms).toNat := by rw [Nat.mul_comm]; exact Nat.div_add_mod _ _
    refine ⟨_, _, rfl, ⟨by omega, PyProof.noPylong_of_log2 (wide_div (i := 0) (b := 20) (show 0 < m.v by omega) (by have := gm.hi; show _ < 1048576; omega) (by decide) (by decide)).2⟩, fun p hp => R.gen hp fun H1 s1 h1p => ?_⟩
    have ed : bmax rs ms / m.v = (((bmax rs ms).toNat / m.v.toNat : Nat) : Int) := by rw [Int.natCast_ediv, ← eB, ← eV]
    have er : bmax rs ms % m.v = (((bmax rs ms).toNat % m.v.toNat : Nat) : Int) := by rw [Int.natCast_emod, ← eB, ← eV]
    rw [ed, er] at h1p
    obtain ⟨z1, z2, z3⟩ := sm_row cs hg he (j := (bmax rs ms).toNat / m.v.toNat) (.inl hq)
    have hC1 := hC0.same s1
    have g1 := s1 _ _ h1
    refine R.gtup (SqT.of h1p) rfl ?_
    walk_at "rd"
    refine methC hC1 (fun _ _ _ _ _ => rfl) ?_
    walk_at "rd"
    refine methC hC1 (fun _ _ _ _ _ => rfl) ?_
    walk_at "rd"
    refine ⟨c, _, rs, ms, cs, _, rfl, hC1, fun t2 ht2 => ?_⟩
    rw [z1, z2] at ht2
    walk_at "rd"
    refine methC hC1 (fun _ _ _ _ _ => rfl) ?_
    walk_at "rd"
    refine ⟨c, _, rs, ms, cs, _, rfl, hC1, ?_⟩
    rw [z3]
    walk_at "rd"
    refine ⟨c, t2, _, _, _, rs, ms, cs, m, rfl, hC1, hg, he, ht2, rfl, hl, Nat.lt_of_lt_of_le (show _ < 2 ^ 20 by show _ < 1048576; omega) (Nat.pow_le_pow_right (by decide) (by decide)), fun H2 t3 s2 h3 => ?_⟩
    rw [hdm] at h3
    have s02 := s1.trans s2
    have hC2 := hC0.same s02
    walk_at "rd"
    refine methC hC2 (fun _ _ _ _ _ => rfl) ?_
    walk_at "rd"
    refine ⟨c, t, _, _, _, rs, ms, cs, m, rfl, hC2, hg, he, s02 _ _ ht, rfl, hρ, hn, fun H3 t4 s3 h4 => ?_⟩
    have s03 := s02.trans s3
    have hC3 := hC0.same s03
    have h3' := s3 _ _ h3
    walk_at "rd"
    refine methC hC3 (fun _ _ _ _ _ => rfl) ?_
    walk_at "rd"
    refine ⟨c, _, rs, ms, cs, _, rfl, hC3, ?_⟩
    rw [(sm_row cs hg he (j := ρ) (.inr hρ)).2.2]
    walk_at "rd"
    refine methC hC3 (fun _ _ _ _ _ => rfl) ?_
    walk_at "rd"
    refine ⟨c, _, _, rs, ms, cs, _, m, rfl, hC3, he, ?_⟩
    have ea : (if ((n : Nat) : Int) = 1 ∧ m.u = true then V.int 0 else oV (WN rs ms cs n)) = oV (ahE (WN rs ms cs) m.u n) := by
      unfold ahE
      by_cases z : n = 1 ∧ m.u = true
      · rw [if_pos z, if_pos ⟨by omega, z.2⟩]; rfl
      · rw [if_neg z, if_neg (fun w => z ⟨by omega, w.2⟩)]
    rw [ea]
    have eN : WN rs ms cs (n * m.v.toNat + ρ) = if m.r.toNat < ρ then none else match ahE (WN rs ms cs) m.u n, WN rs ms cs ρ with | some a, some b => some (a + ownW cs m.w + b) | _, _ => none := by
      rw [WN_big cs hg he hB]
      unfold eE
      have e1 : (n * m.v.toNat + ρ) / m.v.toNat = n := by rw [Nat.mul_comm, Nat.mul_add_div (by omega), Nat.div_eq_of_lt hρ, Nat.add_zero]
      have e2 : (n * m.v.toNat + ρ) % m.v.toNat = ρ := by rw [Nat.mul_comm, Nat.mul_add_mod, Nat.mod_eq_of_lt hρ]
      rw [e1, e2]
      by_cases z : m.r.toNat < ρ
      · rw [if_pos (.inr z), if_pos z]
      · rw [if_neg (by omega), if_neg z]
        all_goals (cases ahE (WN rs ms cs) m.u n <;> cases WN rs ms cs ρ <;> rfl)
    obtain ⟨t1', t2'⟩ := s_tail (f := WN rs ms cs) (g := rowEE rs ms cs m) (b := (bmax rs ms).toNat) (n := n * m.v.toNat + ρ) (by omega) fun k h1 _ => WN_big cs hg he h1
    have g3 := s03 _ _ h1
    walk_at "rd"
    refine R.cut (fun σ' H' => ∃ q5, σ' = [some (.ref c), some (.int (n : Nat)), some (.ref t), some (oV (WN rs ms cs n)), some (.int (ρ : Nat)), q5, some (.int m.v), some (.int m.r), some (.int (sA (WN rs ms cs) (bmax rs ms).toNat : Nat)), some (.int (sT (WN rs ms cs) (bmax rs ms).toNat : Nat)), some (.int ((bmax rs ms).toNat / m.v.toNat : Nat)), some (.int ((bmax rs ms).toNat % m.v.toNat : Nat)), some (.ref t3), some (.ref t4), some (oV (WN rs ms cs ρ)), some (oV (ahE (WN rs ms cs) m.u n)), some (oV (WN rs ms cs (n * m.v.toNat + ρ)))] ∧ H' = H3) ?_ ?_
    · walk_at "rd"
      cases ha : ahE (WN rs ms cs) m.u n with
      | none =>
        rw [ha] at eN
        have e0 : WN rs ms cs (n * m.v.toNat + ρ) = none := by rw [eN]; split <;> rfl
        refine itY rfl ?_
        walk_at "rd"
        refine ⟨some (.bl m.u), ?_, rfl⟩
        rw [e0]
        rfl
      | some a =>
        rw [ha] at eN
        rw [oV_some]
        refine itN (fun q => nomatch (show V.int _ = V.non from q)) ?_
        walk_at "rd"
        cases hb2 : WN rs ms cs ρ with
        | none =>
          rw [hb2] at eN
          have e0 : WN rs ms cs (n * m.v.toNat + ρ) = none := by rw [eN]; split <;> rfl
          refine itY rfl ?_
          walk_at "rd"
          refine ⟨some (.bl m.u), ?_, rfl⟩
          rw [e0]
          rfl
        | some b =>
          rw [hb2] at eN
          rw [oV_some]
          refine itN (fun q => nomatch (show V.int _ = V.non from q)) ?_
          walk_at "rd"
          refine it (fun h5 => ?_) (fun h5 => ?_)
          · rw [if_pos (by omega)] at eN
            walk_at "rd"
            refine ⟨some (.bl m.u), ?_, rfl⟩
            rw [eN]
            rfl
          · rw [if_neg (by omega)] at eN
            walk_at "rd"
            refine R.fldE g3 TC.cl TC.nO rfl ?_
            walk_at "rd"
            refine ⟨some (.bl m.u), ?_, rfl⟩
            rw [eN, oe]
            rfl
    · rintro σ1 H' ⟨q5, rfl, rfl⟩
      walk_at "rd"
      refine ⟨by decide, fun p1 hp1 => R.gen hp1 fun H4 s4 h4' => ?_⟩
      walk_at "rd"
      refine ⟨by decide, fun p2 hp2 => k _ p2 p1 (same_new (s03.trans s4) hp2) upd_same ?_⟩
      rw [upd_ne (ne_of_none h4' hp2), h4', show ((sA (WN rs ms cs) (bmax rs ms).toNat : Nat) : Int) + ((sA (rowEE rs ms cs m) (n * m.v.toNat + ρ) : Nat) : Int) - ((sA (rowEE rs ms cs m) (bmax rs ms).toNat : Nat) : Int) = ((sA (WN rs ms cs) (n * m.v.toNat + ρ) : Nat) : Int) by omega, show ((sT (WN rs ms cs) (bmax rs ms).toNat : Nat) : Int) + ((sT (rowEE rs ms cs m) (n * m.v.toNat + ρ) : Nat) : Int) - ((sT (rowEE rs ms cs m) (bmax rs ms).toNat : Nat) : Int) = ((sT (WN rs ms cs) (n * m.v.toNat + ρ) : Nat) : Int) by omega]
end
end KN
end
section
set_option Elab.async false
set_option linter.all false
set_option maxRecDepth 100000
set_option maxHeartbeats 4000000
set_option pp.maxSteps 1500
set_option pp.deepTerms false
local macro_rules | `(tactic| walk_at "ne") => `(tactic| first
  | assumption | (apply Ne.symm; assumption)
  | exact R.ne_new (by assumption) | exact (R.ne_new (by assumption)).symm
  | exact L2.ne_of_none (by assumption) (by assumption) | exact (L2.ne_of_none (by assumption) (by assumption)).symm
  | exact L2.ne_of_none (by assumption) (R.free_new (by assumption)) | exact (L2.ne_of_none (by assumption) (R.free_new (by assumption))).symm)
local macro_rules | `(tactic| walk_at "at") => `(tactic| first
  | assumption | exact L2.upd_same
  | (refine R.sb (H := ?H) (p := ?p) ?e ?n ?h; (case e => assumption); (case n => walk_at "ne"); (case h => walk_at "at"))
  | (refine R.sm (H := ?H) ?e ?h; (case e => assumption); (case h => walk_at "at"))
  | (refine Eq.trans (L2.upd_ne ?_) ?_ <;> first | walk_at "ne" | walk_at "at"))
local macro_rules | `(tactic| walk_at "sqt") => `(tactic| first | assumption | (refine L2.SqT.of ?_; walk_at "at"))
local macro_rules | `(tactic| walk_at "ty") => `(tactic| first | exact R.tyN | exact R.tyB | exact R.tyI | exact R.tyS | (refine R.tyT (xs := ?xs) ?h; case h => walk_at "at") | (refine R.tyL (xs := ?xs) ?h; case h => walk_at "at"))
local macro_rules | `(tactic| walk_at "kit") => `(tactic| first | exact R.kit_NoneType_tuple | exact R.kit_NoneType_list | exact R.kit_NoneType_bool | exact R.kit_NoneType_str | exact R.kit_NoneType_int | exact R.kit_bool_tuple | exact R.kit_bool_list | exact R.kit_bool_bool | exact R.kit_bool_str | exact R.kit_bool_int | exact R.kit_int_tuple | exact R.kit_int_list | exact R.kit_int_bool | exact R.kit_int_str | exact R.kit_int_int | exact R.kit_str_tuple | exact R.kit_str_list | exact R.kit_str_bool | exact R.kit_str_str | exact R.kit_str_int | exact R.kit_tuple_tuple | exact R.kit_tuple_list | exact R.kit_tuple_bool | exact R.kit_tuple_str | exact R.kit_tuple_int | exact R.kit_list_tuple | exact R.kit_list_list | exact R.kit_list_bool | exact R.kit_list_str | exact R.kit_list_int)
local macro_rules | `(tactic| walk_at "sz") => `(tactic| first | assumption | (refine Nat.le_trans ?_ (show 1000 ≤ PySem.sizeLine by decide); omega) | decide)
local macro_rules | `(tactic| walk_at "szl") => `(tactic| first | assumption | exact Nat.le_of_lt (L2.small1000 (by omega)) | decide | decide +kernel)
local macro_rules | `(tactic| walk_at "sys") => `(tactic| first | assumption | exact KN.SysAt.same (by assumption) (by assumption))
local macro_rules | `(tactic| walk_at "dk") => `(tactic| first | exact R.rowsS _ _ | exact R.rowsM _ _)
local macro_rules | `(tactic| walk_at "sqa") => `(tactic| first | assumption | exact R.SeqA.same (by assumption) (by assumption) | exact R.SeqA.new (by assumption) (by assumption) | (exact Or.inl (by walk_at "at")) | (exact Or.inr (by walk_at "at")))
local macro_rules | `(tactic| walk_at "ix") => `(tactic| first | rfl | (exact L2.atI_nat (by assumption)) | assumption)
local macro_rules | `(tactic| walk_at "cond") => `(tactic| first
  | exact Or.inl (by decide) | exact Or.inr (by decide) | exact Or.inl ⟨by omega, by omega⟩ | exact Or.inr ⟨by omega, by omega⟩
  | (constructor <;> omega) | (show _ ≠ _; omega) | decide | omega)
local macro_rules | `(tactic| walk_at "r1") => `(tactic| first
  | with_reducible refine R.seq ?_ | with_reducible refine R.asg ?_ | with_reducible refine R.ifs ?_ | with_reducible refine R.ret ?_ | with_reducible refine R.retN ?_ | with_reducible refine R.drop ?_ | with_reducible refine R.next ?_
  | with_reducible refine R.op ?_ | ((with_reducible refine R.var (v := ?v) ?h ?q); case h => rfl) | with_reducible refine R.c ?_ | with_reducible refine R.tst ?_ | with_reducible refine R.tb_ ?_ | with_reducible refine R.ex ?_
  | with_reducible refine R.i0 ?_ | with_reducible refine R.eqI ?_ | with_reducible refine R.neI ?_ | ((with_reducible refine R.ic ?_ ?_); · walk_at "cond") | with_reducible refine R.u0 ?_ | with_reducible refine R.un ?_
  | ((with_reducible refine R.eq ?_ ?_); · rfl) | ((with_reducible refine R.ne ?_ ?_); · rfl)
  | with_reducible refine R.and_ ?_ | with_reducible refine R.or_ ?_ | with_reducible refine R.not_ ?_ | with_reducible refine R.ife ?_ | with_reducible refine R.chain ?_
  | with_reducible refine R.cons ?_ | with_reducible refine R.nil ?_ | with_reducible refine R.call ?_ | with_reducible refine R.cb ?_ | with_reducible refine R.bm ?_
  | with_reducible refine R.gname ?_ | with_reducible refine R.gsub ?_ | with_reducible refine R.gnil ?_ | with_reducible refine R.gcons ?_ | with_reducible refine R.yes ?_
  | with_reducible refine R.int1 ?_ | ((with_reducible refine R.lenL (xs := ?xs) ?h ?q); case h => walk_at "at")
  | ((with_reducible refine R.ixL (xs := ?xs) (v := ?v) ?h ?e ?q); (case h => walk_at "at"); (case e => walk_at "ix"))
  | ((with_reducible refine R.setL (xs := ?xs) (n := ?n) ?h ?e ?q); (case h => walk_at "at"); (case e => rfl))
  | ((with_reducible refine R.append (xs := ?xs) ?h ?e ?q); (case h => walk_at "at"); (case e => walk_at "cond"))
  | with_reducible refine R.is_ ?_ | with_reducible refine R.isnot ?_ | with_reducible refine R.andV ?_ | with_reducible refine R.orV ?_ | with_reducible refine R.notV ?_
  | ((with_reducible refine R.isi (s := ?s) (b := ?b) ?ty ?h ?q); (case ty => walk_at "ty"); (case h => walk_at "kit"))
  | ((with_reducible refine R.addS ?h ?q); (case h => walk_at "sz")) | with_reducible refine R.max2 ?_ | with_reducible refine R.min2 ?_
  | ((with_reducible refine R.lenStr ?h ?q); (case h => walk_at "szl")) | ((with_reducible refine R.ixS (n := ?n) ?h ?e ?q); (case h => walk_at "szl"); (case e => walk_at "ix"))
  | ((with_reducible refine R.tyl (xs := ?xs) ?h ?q); (case h => walk_at "at")) | with_reducible refine R.itlist ?_ | with_reducible refine R.ittup ?_ | with_reducible refine R.m1 ?_ | with_reducible refine R.m1s ?_ | with_reducible refine R.leS ?_ | with_reducible refine R.itstr ?_ | with_reducible refine R.itstrE ?_ | with_reducible refine R.lc ?_ | with_reducible refine R.lc2 ?_ | with_reducible refine R.ckw ?_ | with_reducible refine R.par ?_ | with_reducible refine R.parE ?_ | with_reducible refine R.itrev ?_ | with_reducible refine R.dsetd ?_ | with_reducible refine R.dnotin_ ?_ | with_reducible refine R.for_ ?_ | ((with_reducible refine R.all_ (bs := ?bs) ?h ?q); (case h => walk_at "at"))
  | with_reducible refine R.rng1 ?_ | ((with_reducible refine R.rngE ?h ?q); (case h => (constructor <;> omega)))
  | ((with_reducible refine R.lenT (xs := ?xs) ?h ?q); (case h => walk_at "sqt")) | ((with_reducible refine R.ixT (xs := ?xs) (v := ?v) ?h ?e ?q); (case h => walk_at "sqt"); (case e => walk_at "ix"))
  | ((refine R.itlE (xs := ?xs) ?h ?q); (case h => walk_at "at")) | ((refine R.ittE (xs := ?xs) ?h ?q); (case h => walk_at "at"))
  | ((refine R.gseq (xs := ?xs) ?h ?e ?q); (case h => walk_at "sqa"); (case e => rfl)) | ((refine R.ixA (xs := ?xs) (v := ?v) ?h ?e ?q); (case h => walk_at "sqa"); (case e => walk_at "ix")) | ((refine R.lenA (xs := ?xs) ?h ?q); (case h => walk_at "sqa"))
  | ((with_reducible refine R.gtup (xs := ?xs) ?h ?e ?q); (case h => walk_at "sqt"); (case e => rfl))
  | with_reducible refine R.din_ ?_ | with_reducible refine R.dput_ ?_
  | with_reducible refine R.dget2_ ?_ | ((with_reducible refine R.aug_ (x := ?x) ?h ?q); case h => rfl) | with_reducible refine R.ipI_ ?_
  | with_reducible refine R.rng2 ?_ | ((with_reducible refine R.rngE2 ?h ?q); (case h => (refine ⟨?_, ?_, ?_, ?_⟩ <;> omega)))
  | with_reducible refine R.brk ?_ | with_reducible refine R.intB ?_ | with_reducible refine R.meth_ ?_ | ((refine KN.methS (rs := ?rs) (ms := ?ms) ?h (fun _ _ _ _ => rfl) ?q); case h => walk_at "sys")
  | with_reducible refine R.sl_ ?_ | with_reducible refine R.np_ ?_ | with_reducible refine R.pt_ ?_ | with_reducible refine R.ptE ?_ | with_reducible refine R.dget_ ?_ | with_reducible refine R.revL_ ?_
  | ((refine R.dgetS (kvs := ?kvs) (v := ?v) ?h ?e ?q); (case h => walk_at "at"); (case e => walk_at "dk"))
  | with_reducible refine R.sfld ?_ | with_reducible refine R.fld_ ?_ | with_reducible refine R.dc ?_
  | with_reducible refine R.dget1_ ?_
  | with_reducible refine R.itseq ?_ | with_reducible refine R.itenum ?_
  | with_reducible refine R.itT ?_ | with_reducible refine R.itF ?_ | with_reducible refine R.itNT ?_ | with_reducible refine R.itNF ?_
  | (with_reducible refine R.tup ?_) | (with_reducible refine R.lst ?_))
local macro_rules | `(tactic| walk_at "rd") => `(tactic| (repeat (first | walk_at "r1" | (dsimp only [Int.reduceToNat, List.set_cons_succ, List.set_cons_zero, List.length_cons, List.length_nil, List.nil_append, List.cons_append, List.append_nil]))))
local macro_rules | `(tactic| walk_at "go") => `(tactic| (rw [R.start_eq]; dsimp only [R.startE, List.map_nil]; walk_at "rd"))
local macro_rules | `(tactic| walk_at "r1") => `(tactic| first | with_reducible refine R.callN ?_ | with_reducible refine R.tr_ ?_ | with_reducible refine R.rng3 ?_ | with_reducible refine R.bits ?_ | with_reducible refine R.dnewT ?_)
-- RTX
namespace KN
open PySem L2 SX R
open C8 (Cal Def cal0 pe_c pe_gc fnScope fnBody pss_cut Met met0 pe_mt pe_mt0)
section
variable {P : Program} {w : World} {K : PySem.W.Frag} {mg : Str → Option Value} {base : Heap}
abbrev sCenU : Stmt := inClass (top 5) 1
theorem scCenU : FnScope ["self", "number", "rests", "head", "rest", "sums", "words"] ["self", "number"] (fnScope sCenU) := ⟨rfl, rfl, rfl, by decide +kernel, rfl, by decide +kernel, by decide +kernel⟩
/-- the head and the rests of a number, where each head is above b and not less than v -/
inductive CutR (v b N : Nat) : Nat → List Nat → Prop
  | nil : CutR v b N N []
  | snoc {h : Nat} {l : List Nat} : CutR v b N h l → b < h → v ≤ h → CutR v b N (h / v) (l ++ [h % v])
theorem CutR.le {v b N : Nat} (v2 : 2 ≤ v) {h : Nat} {l : List Nat} (p : CutR v b N h l) : 2 ^ l.length * h ≤ N ∧ (l = [] ∨ 1 ≤ h) ∧ h ≤ N := by
  induction p with
  | nil => exact ⟨by show 2 ^ 0 * N ≤ N; omega, .inl rfl, Nat.le_refl _⟩
  | snoc p hb hv ih =>
    rename_i h l
    obtain ⟨i1, i2, i3⟩ := ih
    have d1 : 1 ≤ h / v := (Nat.le_div_iff_mul_le (by omega)).mpr (by omega)
    have d2 : 2 * (h / v) ≤ h := Nat.le_trans (Nat.mul_le_mul_right _ v2) (Nat.mul_div_le _ _)
    refine ⟨?_, .inr d1, by omega⟩
    rw [List.length_append, List.length_cons, List.length_nil, Nat.zero_add, Nat.pow_succ, Nat.mul_assoc]
    exact Nat.le_trans (Nat.mul_le_mul_left _ d2) i1
theorem CutR.len {v b N : Nat} (v2 : 2 ≤ v) {h : Nat} {l : List Nat} (p : CutR v b N h l) {k : Nat} (hN : N < 2 ^ k) : l.length ≤ k := by
  obtain ⟨a, c, _⟩ := p.le v2
  rcases c with z | z
  · rw [z]; exact Nat.zero_le _
  · have : 2 ^ l.length ≤ N := Nat.le_trans (by have := Nat.mul_le_mul_left (2 ^ l.length) z; omega) a
    have := (Nat.pow_lt_pow_iff_right (a := 2) (by decide)).mp (Nat.lt_of_le_of_lt this hN)
    omega
theorem CutR.back {v b N : Nat} {c : Nat} {l : List Nat} {ρ : Nat} (p : CutR v b N c (l ++ [ρ])) : ∃ h, CutR v b N h l ∧ b < h ∧ v ≤ h ∧ c = h / v ∧ ρ = h % v := by
  generalize hl : l ++ [ρ] = l' at p
  cases p with
  | nil => exact absurd hl (by simp)
  | snoc p hb hv =>
    rename_i h l2
    obtain ⟨e1, e2⟩ := List.append_inj' hl rfl
    subst e1
    injection e2 with e3
    exact ⟨h, p, hb, hv, rfl, e3⟩
theorem CutR.nil_eq {v b N h : Nat} (p : CutR v b N h []) : h = N := by
  generalize hl : ([] : List Nat) = l' at p
  cases p with
  | nil => rfl
  | snoc p hb hv => exact absurd hl (by simp)
def spCU (C : Addr) : Sp := fun vs H Q _ => ∃ (c : Addr) (N : Nat) (rs : List SR) (ms : List MR) (cs : List Str) (L : Nat), vs = [.ref c, .int (N : Nat)] ∧ CenAt C H c rs ms cs L ∧ GoodSys rs ms ∧ (N ≤ L ∨ L = (bmax rs ms).toNat) ∧ N < 2 ^ 3000 ∧
  ∀ H' p, Same H H' → H' p = some (.tup [V.int (sA (WN rs ms cs) N : Nat), V.int (sT (WN rs ms cs) N : Nat)]) → Q (.ref p) H'
theorem m_up_to (Z : Zs mg) (zrev : mg "reversed" = none) {C : Addr} (TC : CenK K C) (m__small_sums : Met P w K mg base 1 C "_small_sums" (spCS C) []) (m__small : Met P w K mg base 1 C "_small" (spCM C) []) (m__behind : Met P w K mg base 4 C "_behind" (spCBh C) []) {f : Addr} {fd : FuncData} (me : Meth K C "up_to" f) (F : C8.Fun K "up_to" "Census.up_to" sCenU f fd) (b : Binds K fd ["self", "number"] []) : Met P w K mg base 5 C "up_to" (spCU C) [] := by
  refine met0 TC.cl me F b scCenU (fun vs H Q E h => ?_) (fun cdv A outer s H vs Q E hr h => ?_)
  · obtain ⟨c, N, rs, ms, cs, L, rfl, _⟩ := h
    rfl
  · obtain ⟨c, N, rs, ms, cs, L, rfl, hC, hg, hNL, hN, k⟩ := h
    have hC0 := hC
    obtain ⟨⟨dx, rv, fa, sa, vs, h1, h2, h3, h4, T⟩, hL⟩ := hC
    refine ⟨_, pss_cons (ps_set (i := 2) scCenU.nd rfl (Or.inl rfl) (pe_lst pa_nil))
      (pss_cons (ps_set (i := 3) scCenU.nd rfl (Or.inl rfl) (pv 1))
      (pss_cut (ps_while PassesOwn.never (PW.pt (pw_and (pt_cmpR oIsNot (kFld K (pv 0)) pe_non (nomark _)) (pw_and (pt_cmpR op_gt (pv 3) (kFld K (pv 0)) (nomark _)) (pw_and1 (pt_cmpR op_ge (pv 3) (pe_ix (kIxT K) (kFld K (pv 0)) pe_int (fun _ _ => rfl)) (nomark _))))))
        (pss_cons (ps_asg (pe_callB call_divmodW (by rfl) Z.divmod (by decide +kernel) (pa_cons (pv 3) (pa_cons (pe_ix (kIxT K) (kFld K (pv 0)) pe_int (fun _ _ => rfl)) pa_nil))) (kgTup K (n := 2) rfl (pgs_cons (pg_name (i := 3) scCenU.nd rfl (Or.inl rfl)) (pgs_cons (pg_name (i := 4) scCenU.nd rfl (Or.inl rfl)) pgs_nil))))
      (pss_one (ps_expr (kBM K (pe_bm PySem.F.plainAttrs_list PySem.F.slot_list_append PySem.F.type_list_append mt_append (pv 2) (pa_cons (pv 4) pa_nil)))))))
      (pss_cons (ps_par (i := 5) (j := 6) rfl scCenU.nd rfl rfl (by decide) rfl rfl (pa_cons (pe_mt m__small_sums hr (by omega) (pv 0) (pa_cons (pv 3) pa_nil)) (pa_cons (pe_mt m__small hr (by omega) (pv 0) (pa_cons (pv 3) pa_nil)) pa_nil)) (by rfl))
      (pss_cons (ps_for PassesOwn.never rfl (kiRev K (by rfl) zrev (pa_cons (pv 2) pa_nil)) (pg_name (i := 4) scCenU.nd rfl (Or.inl rfl))
        (pss_cons (ps_asg (pe_mt m__behind hr (by omega) (pv 0) (pa_cons (pv 3) (pa_cons (pv 5) (pa_cons (pv 6) (pa_cons (pv 4) pa_nil))))) (kgTup K (n := 2) rfl (pgs_cons (pg_name (i := 5) scCenU.nd rfl (Or.inl rfl)) (pgs_cons (pg_name (i := 6) scCenU.nd rfl (Or.inl rfl)) pgs_nil))))
      (pss_one (ps_set (i := 3) scCenU.nd rfl (Or.inl rfl) (pe_op op_add (pe_op op_mulW (pv 3) (pe_ix (kIxT K) (kFld K (pv 0)) pe_int (fun _ _ => rfl))) (pv 4))))))
      (pss_one (ps_ret (pv 5))))))), ?_⟩
    have hvv : ∀ m ∈ ms, 2 ≤ m.v := fun m hm => (hg.m m hm).lo
    obtain ⟨b1, b0⟩ := bmax_le hg
    walk_at "go"
    refine ⟨by decide, fun D hD => R.gen hD fun H1 s1 hD1 => ?_⟩
    walk_at "rd"
    have hVR : ∀ m, endF ms = some m → 2 ≤ m.v ∧ m.v ≤ 100000 := fun m he => ⟨hvv _ (List.mem_of_find?_eq_some he), (hg.m m (List.mem_of_find?_eq_some he)).hi⟩
    obtain ⟨Vn, hVn⟩ : ∃ Vn : Nat, Vn = (match endF ms with | some m => m.v.toNat | none => 2) := ⟨_, rfl⟩
    have V2 : 2 ≤ Vn := by
      cases he : endF ms with
      | none => rw [hVn, he]; exact Nat.le_refl _
      | some m => rw [hVn, he]; have := (hVR m he).1; show 2 ≤ m.v.toNat; omega
    refine R.cut (fun σ' H' => ∃ (h : Nat) (hs : List Nat) (q4 : Option V), σ' = [some (.ref c), some (.int (N : Nat)), some (.ref D), some (.int (h : Nat)), q4, none, none] ∧ Same H H' ∧ H' D = some (.lst (hs.map fun ρ : Nat => V.int (ρ : Nat))) ∧ CutR Vn (bmax rs ms).toNat N h hs ∧ (hs = [] ∨ ((∃ m, endF ms = some m) ∧ L = (bmax rs ms).toNat)) ∧ sA (WN rs ms cs) (min h L) = sA (WN rs ms cs) h ∧ sT (WN rs ms cs) (min h L) = sT (WN rs ms cs) h ∧ (if h ≤ L then WN rs ms cs h else none) = WN rs ms cs h) ?_ ?_
    · refine ⟨fun mu σ' H' => ∃ (h : Nat) (hs : List Nat) (q4 : Option V), σ' = [some (.ref c), some (.int (N : Nat)), some (.ref D), some (.int (h : Nat)), q4, none, none] ∧ Same H H' ∧ H' D = some (.lst (hs.map fun ρ : Nat => V.int (ρ : Nat))) ∧ CutR Vn (bmax rs ms).toNat N h hs ∧ (hs = [] ∨ ((∃ m, endF ms = some m) ∧ L = (bmax rs ms).toNat)) ∧ mu = h, ⟨_, N, [], _, rfl, s1, hD1, .nil, .inl rfl, rfl⟩, ?_⟩
      rintro h σ' H2 ⟨_, hs, q4, rfl, s2, h2D, hp, hmE, rfl⟩
      have g1 := s2 _ _ h1
      have R2 := h2.keep (fun a x e => s2 _ _ e)
      obtain ⟨l1, l2, l3⟩ := hp.le V2
      have ll := hp.len V2 hN
      have out : sA (WN rs ms cs) (min h L) = sA (WN rs ms cs) h ∧ sT (WN rs ms cs) (min h L) = sT (WN rs ms cs) h ∧ (if h ≤ L then WN rs ms cs h else none) = WN rs ms cs h → ∃ (h_1 : Nat) (hs : List Nat) (q4_1 : Option V), ([some (V.ref c), some (V.int (N : Nat)), some (V.ref D), some (V.int (h : Nat)), q4, none, none] : L2.St) = [some (.ref c), some (.int (N : Nat)), some (.ref D), some (.int (h_1 : Nat)), q4_1, none, none] ∧ Same H H2 ∧ H2 D = some (.lst (hs.map fun ρ : Nat => V.int (ρ : Nat))) ∧ CutR Vn (bmax rs ms).toNat N h_1 hs ∧ (hs = [] ∨ ((∃ m, endF ms = some m) ∧ L = (bmax rs ms).toNat)) ∧ sA (WN rs ms cs) (min h_1 L) = sA (WN rs ms cs) h_1 ∧ sT (WN rs ms cs) (min h_1 L) = sT (WN rs ms cs) h_1 ∧ (if h_1 ≤ L then WN rs ms cs h_1 else none) = WN rs ms cs h_1 := fun q => ⟨h, hs, q4, rfl, s2, h2D, hp, hmE, q⟩
      have inL : h ≤ L → sA (WN rs ms cs) (min h L) = sA (WN rs ms cs) h ∧ sT (WN rs ms cs) (min h L) = sT (WN rs ms cs) h ∧ (if h ≤ L then WN rs ms cs h else none) = WN rs ms cs h := fun z => by
        rw [Nat.min_eq_left z, if_pos z]
        exact ⟨rfl, rfl, rfl⟩
      walk_at "rd"
      refine R.fldE g1 TC.cl TC.nR rfl ?_
      walk_at "rd"
      rcases R2 with ⟨rfl, he⟩ | ⟨rb, m, rfl, he, hb⟩
      · refine itnY rfl ?_
        walk_at "rd"
        refine out ?_
        rcases hNL with z | z
        · exact inL (by omega)
        · rw [z]; exact sm_none cs hg he h
      · obtain ⟨v2, v9⟩ := hVR m he
        rw [he] at hVn
        dsimp only at hVn
        refine itnN (fun z => nomatch z) ?_
        walk_at "rd"
        refine R.fldE g1 TC.cl TC.nM rfl ?_
        walk_at "rd"
        refine it (fun h5 => ?_) (fun h5 => ?_)
        · walk_at "rd"
          refine R.fldE g1 TC.cl TC.nR rfl ?_
          walk_at "rd"
          refine it (fun h6 => ?_) (fun h6 => ?_)
          · refine ⟨fun σ' H' => ∃ mu', mu' < h ∧ ∃ (h : Nat) (hs : List Nat) (q4 : Option V), σ' = [some (.ref c), some (.int (N : Nat)), some (.ref D), some (.int (h : Nat)), q4, none, none] ∧ Same H H' ∧ H' D = some (.lst (hs.map fun ρ : Nat => V.int (ρ : Nat))) ∧ CutR Vn (bmax rs ms).toNat N h hs ∧ (hs = [] ∨ ((∃ m, endF ms = some m) ∧ L = (bmax rs ms).toNat)) ∧ mu' = h, fun _ _ h => h, ?_⟩
            walk_at "rd"
            refine R.fldE g1 TC.cl TC.nR rfl ?_
            walk_at "rd"
            refine ⟨_, _, rfl, ⟨by omega, PyProof.noPylong_of_log2 (wide_div (i := 0) (b := 20) (show 0 < m.v by omega) (by show _ < 1048576; omega) (by decide) (by decide)).2⟩, fun p hp0 => R.gen hp0 fun H3 s3 h3p => ?_⟩
            have eV : m.v = ((m.v.toNat : Nat) : Int) := (Int.toNat_of_nonneg (by omega)).symm
            rw [eV, ← Int.natCast_ediv, ← Int.natCast_emod, ← hVn] at h3p
            refine R.gtup (SqT.of h3p) rfl ?_
            walk_at "rd"
            refine R.append (s3 _ _ h2D) (by rw [List.length_map]; show _ < 2 ^ 24; omega) ?_
            refine ⟨_, Nat.div_lt_self (by omega) (by omega), h / Vn, hs ++ [h % Vn], _, rfl, fun a o q => ?_, ?_, hp.snoc (show (bmax rs ms).toNat < h by clear out inL; omega) (show Vn ≤ h by rw [hVn]; exact Int.toNat_le.mpr h6), .inr ⟨⟨m, he⟩, ?_⟩, rfl⟩
            · rw [upd_ne (ne_of_none q hD)]
              exact s3 _ _ (s2 _ _ q)
            · rw [upd_same, List.map_append]
              rfl
            · rcases hNL with z | z
              · omega
              · exact z
          · walk_at "rd"
            refine out ?_
            rcases hNL with z | z
            · exact inL (by omega)
            · have hh : h < m.v.toNat := by clear out inL; omega
              rw [z]; exact sm_row cs hg he (.inr hh)
        · walk_at "rd"
          refine out ?_
          rcases hNL with z | z
          · exact inL (by omega)
          · have hh : h ≤ (bmax rs ms).toNat := by clear out inL; omega
            rw [z]; exact sm_row cs hg he (.inl hh)
    · rintro σ1 H2 ⟨h, hs, q4, rfl, s2, h2D, hp, hmE, q1, q2, q3⟩
      have ll := hp.len V2 hN
      have hC2 := hC0.same s2
      walk_at "rd"
      refine methC hC2 (fun _ _ _ _ _ => rfl) ?_
      walk_at "rd"
      refine ⟨c, _, rs, ms, cs, _, rfl, hC2, fun t ht => ?_⟩
      rw [q1, q2] at ht
      walk_at "rd"
      refine methC hC2 (fun _ _ _ _ _ => rfl) ?_
      walk_at "rd"
      refine ⟨c, _, rs, ms, cs, _, rfl, hC2, ?_⟩
      rw [q3]
      walk_at "rd"
      refine ⟨D, _, rfl, SqL.of h2D, ?_⟩
      refine RT.for_Itv (fun i σ' H' => ∃ (h : Nat) (q4 : Option V) (t : Addr), σ' = [some (.ref c), some (.int (N : Nat)), some (.ref D), some (.int (h : Nat)), q4, some (.ref t), some (oV (WN rs ms cs h))] ∧ Same H2 H' ∧ CutR Vn (bmax rs ms).toNat N h (hs.take (hs.length - i)) ∧ H' t = some (.tup [V.int (sA (WN rs ms cs) h : Nat), V.int (sT (WN rs ms cs) h : Nat)]))
        ⟨h, q4, t, rfl, Same.refl _, by rw [Nat.sub_zero, List.take_length]; exact hp, ht⟩ (fun i σ' H' hh => by obtain ⟨_, _, _, _, e, _⟩ := hh; exact SqL.of (e _ _ h2D)) ?_ ?_
      · rintro i u σ' H3 hi hu ⟨h', q4, t', rfl, s3, hp', ht'⟩
        rw [List.length_map] at hi hu
        have hri : hs[hs.length - 1 - i]? = some hs[hs.length - 1 - i] := List.getElem?_eq_getElem (by omega)
        rw [List.getElem?_map, hri] at hu
        cases hu
        have et : hs.take (hs.length - i) = hs.take (hs.length - (i + 1)) ++ [hs[hs.length - 1 - i]] := by
          have e : hs.length - i = (hs.length - (i + 1)) + 1 := by omega
          have e2 : hs.length - 1 - i = hs.length - (i + 1) := by omega
          rw [e, List.take_add_one, ← e2, hri]
          rfl
        rw [et] at hp'
        obtain ⟨h0, p0, c1, c2, c3, c4⟩ := hp'.back
        rcases hmE with z | ⟨⟨m, he⟩, rfl⟩
        · subst z; exact absurd hi (Nat.not_lt_zero _)
        · rw [he] at hVn
          dsimp only at hVn
          obtain ⟨v2, v9⟩ := hVR m he
          have hC3 := hC2.same s3
          rw [hVn] at c2 c3 c4
          have er : h' * m.v.toNat + hs[hs.length - 1 - i] = h0 := by rw [c3, c4, Nat.mul_comm]; exact Nat.div_add_mod _ _
          have h1c : 1 ≤ h' := by rw [c3]; exact (Nat.le_div_iff_mul_le (by omega)).mpr (by omega)
          have rl : hs[hs.length - 1 - i] < m.v.toNat := by rw [c4]; exact Nat.mod_lt _ (by omega)
          have lN := (hp'.le V2).2.2
          generalize hs[hs.length - 1 - i] = ρ at *
          refine R.gname ?_
          walk_at "rd"
          refine methC hC3 (fun _ _ _ _ _ => rfl) ?_
          walk_at "rd"
          refine ⟨c, t', _, _, _, rs, ms, cs, m, rfl, hC3, hg, he, ht', rfl, rl, h1c, pw_le (Nat.lt_of_le_of_lt lN hN) (by decide), by omega, fun H4 p t2 s4 hp4 ht2 => ?_⟩
          rw [er] at hp4 ht2
          walk_at "rd"
          obtain ⟨⟨dx4, rv4, fa4, sa4, vs4, g1, g2, _⟩, _⟩ := hC3.same s4
          obtain ⟨rb4, rfl, hb4⟩ := g2.some he
          refine R.fldE g1 TC.cl TC.nR rfl ?_
          walk_at "rd"
          refine R.ic (wide_mul (two_pow (Nat.lt_of_le_of_lt lN hN)) (b := 20) (by show _ < 1048576; omega) (by decide) (by decide) (by decide)) ?_
          walk_at "rd"
          have eV : m.v = ((m.v.toNat : Nat) : Int) := (Int.toNat_of_nonneg (by omega)).symm
          refine ⟨h0, some (.int (ρ : Nat)), t2, ?_, s3.trans s4, p0, ht2⟩
          have e0 : ((h' : Nat) : Int) * m.v + ((ρ : Nat) : Int) = ((h0 : Nat) : Int) := by rw [eV, ← er]; push_cast; rw [← eV]
          rw [e0]
      · rintro σ' H3 ⟨h', q4, t', rfl, s3, hp', ht'⟩
        rw [List.length_map, Nat.sub_self, List.take_zero] at hp'
        have z : h' = N := hp'.nil_eq
        subst z
        walk_at "rd"
        exact k _ t' (s2.trans s3) ht'
end
end KN
end
section
set_option Elab.async false
set_option linter.all false
set_option maxRecDepth 100000
set_option maxHeartbeats 4000000
set_option pp.maxSteps 1500
set_option pp.deepTerms false
local macro_rules | `(tactic| walk_at "ne") => `(tactic| first
  | assumption | (apply Ne.symm; assumption)
  | exact R.ne_new (by assumption) | exact (R.ne_new (by assumption)).symm
  | exact L2.ne_of_none (by assumption) (by assumption) | exact (L2.ne_of_none (by assumption) (by assumption)).symm
  | exact L2.ne_of_none (by assumption) (R.free_new (by assumption)) | exact (L2.ne_of_none (by assumption) (R.free_new (by assumption))).symm)
local macro_rules | `(tactic| walk_at "at") => `(tactic| first
  | assumption | exact L2.upd_same
  | (refine R.sb (H := ?H) (p := ?p) ?e ?n ?h; (case e => assumption); (case n => walk_at "ne"); (case h => walk_at "at"))
  | (refine R.sm (H := ?H) ?e ?h; (case e => assumption); (case h => walk_at "at"))
  | (refine Eq.trans (L2.upd_ne ?_) ?_ <;> first | walk_at "ne" | walk_at "at"))
local macro_rules | `(tactic| walk_at "sqt") => `(tactic| first | assumption | (refine L2.SqT.of ?_; walk_at "at"))
local macro_rules | `(tactic| walk_at "ty") => `(tactic| first | exact R.tyN | exact R.tyB | exact R.tyI | exact R.tyS | (refine R.tyT (xs := ?xs) ?h; case h => walk_at "at") | (refine R.tyL (xs := ?xs) ?h; case h => walk_at "at"))
local macro_rules | `(tactic| walk_at "kit") => `(tactic| first | exact R.kit_NoneType_tuple | exact R.kit_NoneType_list | exact R.kit_NoneType_bool | exact R.kit_NoneType_str | exact R.kit_NoneType_int | exact R.kit_bool_tuple | exact R.kit_bool_list | exact R.kit_bool_bool | exact R.kit_bool_str | exact R.kit_bool_int | exact R.kit_int_tuple | exact R.kit_int_list | exact R.kit_int_bool | exact R.kit_int_str | exact R.kit_int_int | exact R.kit_str_tuple | exact R.kit_str_list | exact R.kit_str_bool | exact R.kit_str_str | exact R.kit_str_int | exact R.kit_tuple_tuple | exact R.kit_tuple_list | exact R.kit_tuple_bool | exact R.kit_tuple_str | exact R.kit_tuple_int | exact R.kit_list_tuple | exact R.kit_list_list | exact R.kit_list_bool | exact R.kit_list_str | exact R.kit_list_int)
local macro_rules | `(tactic| walk_at "sz") => `(tactic| first | assumption | (refine Nat.le_trans ?_ (show 1000 ≤ PySem.sizeLine by decide); omega) | decide)
local macro_rules | `(tactic| walk_at "szl") => `(tactic| first | assumption | exact Nat.le_of_lt (L2.small1000 (by omega)) | decide | decide +kernel)
local macro_rules | `(tactic| walk_at "sys") => `(tactic| first | assumption | exact KN.SysAt.same (by assumption) (by assumption))
local macro_rules | `(tactic| walk_at "dk") => `(tactic| first | exact R.rowsS _ _ | exact R.rowsM _ _)
local macro_rules | `(tactic| walk_at "sqa") => `(tactic| first | assumption | exact R.SeqA.same (by assumption) (by assumption) | exact R.SeqA.new (by assumption) (by assumption) | (exact Or.inl (by walk_at "at")) | (exact Or.inr (by walk_at "at")))
local macro_rules | `(tactic| walk_at "ix") => `(tactic| first | rfl | (exact L2.atI_nat (by assumption)) | assumption)
local macro_rules | `(tactic| walk_at "cond") => `(tactic| first
  | exact Or.inl (by decide) | exact Or.inr (by decide) | exact Or.inl ⟨by omega, by omega⟩ | exact Or.inr ⟨by omega, by omega⟩
  | (constructor <;> omega) | (show _ ≠ _; omega) | decide | omega)
local macro_rules | `(tactic| walk_at "r1") => `(tactic| first
  | with_reducible refine R.seq ?_ | with_reducible refine R.asg ?_ | with_reducible refine R.ifs ?_ | with_reducible refine R.ret ?_ | with_reducible refine R.retN ?_ | with_reducible refine R.drop ?_ | with_reducible refine R.next ?_
  | with_reducible refine R.op ?_ | ((with_reducible refine R.var (v := ?v) ?h ?q); case h => rfl) | with_reducible refine R.c ?_ | with_reducible refine R.tst ?_ | with_reducible refine R.tb_ ?_ | with_reducible refine R.ex ?_
  | with_reducible refine R.i0 ?_ | with_reducible refine R.eqI ?_ | with_reducible refine R.neI ?_ | ((with_reducible refine R.ic ?_ ?_); · walk_at "cond") | with_reducible refine R.u0 ?_ | with_reducible refine R.un ?_
  | ((with_reducible refine R.eq ?_ ?_); · rfl) | ((with_reducible refine R.ne ?_ ?_); · rfl)
  | with_reducible refine R.and_ ?_ | with_reducible refine R.or_ ?_ | with_reducible refine R.not_ ?_ | with_reducible refine R.ife ?_ | with_reducible refine R.chain ?_
  | with_reducible refine R.cons ?_ | with_reducible refine R.nil ?_ | with_reducible refine R.call ?_ | with_reducible refine R.cb ?_ | with_reducible refine R.bm ?_
  | with_reducible refine R.gname ?_ | with_reducible refine R.gsub ?_ | with_reducible refine R.gnil ?_ | with_reducible refine R.gcons ?_ | with_reducible refine R.yes ?_
  | with_reducible refine R.int1 ?_ | ((with_reducible refine R.lenL (xs := ?xs) ?h ?q); case h => walk_at "at")
  | ((with_reducible refine R.ixL (xs := ?xs) (v := ?v) ?h ?e ?q); (case h => walk_at "at"); (case e => walk_at "ix"))
  | ((with_reducible refine R.setL (xs := ?xs) (n := ?n) ?h ?e ?q); (case h => walk_at "at"); (case e => rfl))
  | ((with_reducible refine R.append (xs := ?xs) ?h ?e ?q); (case h => walk_at "at"); (case e => walk_at "cond"))
  | with_reducible refine R.is_ ?_ | with_reducible refine R.isnot ?_ | with_reducible refine R.andV ?_ | with_reducible refine R.orV ?_ | with_reducible refine R.notV ?_
  | ((with_reducible refine R.isi (s := ?s) (b := ?b) ?ty ?h ?q); (case ty => walk_at "ty"); (case h => walk_at "kit"))
  | ((with_reducible refine R.addS ?h ?q); (case h => walk_at "sz")) | with_reducible refine R.max2 ?_ | with_reducible refine R.min2 ?_
  | ((with_reducible refine R.lenStr ?h ?q); (case h => walk_at "szl")) | ((with_reducible refine R.ixS (n := ?n) ?h ?e ?q); (case h => walk_at "szl"); (case e => walk_at "ix"))
  | ((with_reducible refine R.tyl (xs := ?xs) ?h ?q); (case h => walk_at "at")) | with_reducible refine R.itlist ?_ | with_reducible refine R.ittup ?_ | with_reducible refine R.m1 ?_ | with_reducible refine R.m1s ?_ | with_reducible refine R.leS ?_ | with_reducible refine R.itstr ?_ | with_reducible refine R.itstrE ?_ | with_reducible refine R.lc ?_ | with_reducible refine R.lc2 ?_ | with_reducible refine R.ckw ?_ | with_reducible refine R.par ?_ | with_reducible refine R.parE ?_ | with_reducible refine R.itrev ?_ | with_reducible refine R.dsetd ?_ | with_reducible refine R.dnotin_ ?_ | with_reducible refine R.for_ ?_ | ((with_reducible refine R.all_ (bs := ?bs) ?h ?q); (case h => walk_at "at"))
  | with_reducible refine R.rng1 ?_ | ((with_reducible refine R.rngE ?h ?q); (case h => (constructor <;> omega)))
  | ((with_reducible refine R.lenT (xs := ?xs) ?h ?q); (case h => walk_at "sqt")) | ((with_reducible refine R.ixT (xs := ?xs) (v := ?v) ?h ?e ?q); (case h => walk_at "sqt"); (case e => walk_at "ix"))
  | ((refine R.itlE (xs := ?xs) ?h ?q); (case h => walk_at "at")) | ((refine R.ittE (xs := ?xs) ?h ?q); (case h => walk_at "at"))
  | ((refine R.gseq (xs := ?xs) ?h ?e ?q); (case h => walk_at "sqa"); (case e => rfl)) | ((refine R.ixA (xs := ?xs) (v := ?v) ?h ?e ?q); (case h => walk_at "sqa"); (case e => walk_at "ix")) | ((refine R.lenA (xs := ?xs) ?h ?q); (case h => walk_at "sqa"))
  | ((with_reducible refine R.gtup (xs := ?xs) ?h ?e ?q); (case h => walk_at "sqt"); (case e => rfl))
  | with_reducible refine R.din_ ?_ | with_reducible refine R.dput_ ?_
  | with_reducible refine R.dget2_ ?_ | ((with_reducible refine R.aug_ (x := ?x) ?h ?q); case h => rfl) | with_reducible refine R.ipI_ ?_
  | with_reducible refine R.rng2 ?_ | ((with_reducible refine R.rngE2 ?h ?q); (case h => (refine ⟨?_, ?_, ?_, ?_⟩ <;> omega)))
  | with_reducible refine R.brk ?_ | with_reducible refine R.intB ?_ | with_reducible refine R.meth_ ?_ | ((refine KN.methS (rs := ?rs) (ms := ?ms) ?h (fun _ _ _ _ => rfl) ?q); case h => walk_at "sys")
  | with_reducible refine R.sl_ ?_ | with_reducible refine R.np_ ?_ | with_reducible refine R.pt_ ?_ | with_reducible refine R.ptE ?_ | with_reducible refine R.dget_ ?_ | with_reducible refine R.revL_ ?_
  | ((refine R.dgetS (kvs := ?kvs) (v := ?v) ?h ?e ?q); (case h => walk_at "at"); (case e => walk_at "dk"))
  | with_reducible refine R.sfld ?_ | with_reducible refine R.fld_ ?_ | with_reducible refine R.dc ?_
  | with_reducible refine R.dget1_ ?_
  | with_reducible refine R.itseq ?_ | with_reducible refine R.itenum ?_
  | with_reducible refine R.itT ?_ | with_reducible refine R.itF ?_ | with_reducible refine R.itNT ?_ | with_reducible refine R.itNF ?_
  | (with_reducible refine R.tup ?_) | (with_reducible refine R.lst ?_))
local macro_rules | `(tactic| walk_at "rd") => `(tactic| (repeat (first | walk_at "r1" | (dsimp only [Int.reduceToNat, List.set_cons_succ, List.set_cons_zero, List.length_cons, List.length_nil, List.nil_append, List.cons_append, List.append_nil]))))
local macro_rules | `(tactic| walk_at "go") => `(tactic| (rw [R.start_eq]; dsimp only [R.startE, List.map_nil]; walk_at "rd"))
namespace KN
open PySem L2 SX R
/-! how great the counts can be -/
section
variable {rs : List SR} {ms : List MR}
theorem ipow_mono {a b : Int} (h0 : 0 ≤ a) (h : a ≤ b) : ∀ k : Nat, a ^ k ≤ b ^ k
  | 0 => by rw [Int.pow_zero, Int.pow_zero]; exact Int.le_refl _
  | k + 1 => by
    rw [Int.pow_succ, Int.pow_succ]
    have i := ipow_mono h0 h k
    have p : 0 ≤ a ^ k := Int.pow_nonneg h0
    exact Int.mul_le_mul i h h0 (by omega)
theorem split_le {n v : Int} (v2 : 2 ≤ v) (q1 : 1 ≤ n / v) : (n / v + 1) * (n % v + 1) ≤ n + 1 ∧ 3 * (n / v + 1) ≤ 2 * (n + 1) ∧ 3 * (n % v + 1) ≤ 2 * (n + 1) ∧ 0 ≤ n % v ∧ 1 ≤ n := by
  have e := Int.mul_ediv_add_emod n v
  have r0 : 0 ≤ n % v := Int.emod_nonneg _ (by omega)
  have r1 : n % v < v := Int.emod_lt_of_pos _ (by omega)
  generalize n / v = q at *
  generalize n % v = r at *
  have h1 : q * (r + 1) ≤ q * v := Int.mul_le_mul_of_nonneg_left (by omega) (by omega)
  have h2 : 2 * q ≤ v * q := Int.mul_le_mul_of_nonneg_right v2 (by omega)
  have h3 : v * 1 ≤ v * q := Int.mul_le_mul_of_nonneg_left q1 (by omega)
  have h4 : v * q = q * v := Int.mul_comm _ _
  refine ⟨?_, by omega, by omega, r0, by omega⟩
  rw [Int.add_mul]
  omega
theorem cnt_pow (hv : ∀ m ∈ ms, 2 ≤ m.v) (hr : rs.length ≤ 24) (hm : ms.length ≤ 6) : ∀ (k : Nat) (n : Int), 1 ≤ n → n.toNat ≤ k → 12 * cnt rs ms n ≤ (n + 1) ^ 10
  | 0, n, h1, hk => by omega
  | k + 1, n, h1, hk => by
    have ih := cnt_pow hv hr hm k
    rw [cnt_eq hv (show 0 ≤ n by omega)]
    have hb : base0 rs n ≤ 24 := by
      unfold base0
      have := List.length_filter_le (fun r : SR => decide (r.v = n)) rs
      omega
    have hX : (1024 : Int) ≤ (n + 1) ^ 10 := Int.le_trans (by decide) (ipow_mono (a := 2) (by decide) (show (2 : Int) ≤ n + 1 by omega) 10)
    have ht : ∀ m ∈ ms, 144 * tm (cnt rs ms) m n ≤ (n + 1) ^ 10 := fun m hmm => by
      unfold tm
      split
      · rename_i q
        have q1 := (okT_iff.mp q).1
        obtain ⟨s1, s2, s3, s4, s5⟩ := split_le (hv m hmm) q1
        obtain ⟨h0, h1', h2, h3⟩ := okT_lt (hv m hmm) (by omega) q
        have big : ∀ z : Int, 0 ≤ z → 3 * z ≤ 2 * (n + 1) → 12 * z ^ 10 ≤ (n + 1) ^ 10 := fun z z0 hz => by
          have := ipow_mono (show 0 ≤ 3 * z by omega) hz 10
          rw [Int.mul_pow, Int.mul_pow, show (3 : Int) ^ 10 = 59049 by decide, show (2 : Int) ^ 10 = 1024 by decide] at this
          have p : 0 ≤ z ^ 10 := Int.pow_nonneg z0
          omega
        have iq := ih (n / m.v) q1 (by omega)
        have cq := cnt_nn (rs := rs) (ms := ms) (n / m.v)
        have cr := cnt_nn (rs := rs) (ms := ms) (n % m.v)
        by_cases hr0 : n % m.v = 0
        · rw [if_pos hr0, Int.mul_one]
          split
          · omega
          · have := big (n / m.v + 1) (by omega) s2
            omega
        · rw [if_neg hr0]
          have ir := ih (n % m.v) (by omega) (by omega)
          split
          · have := big (n % m.v + 1) (by omega) s3
            omega
          · have p := Int.mul_le_mul iq ir (by omega) (Int.pow_nonneg (by omega))
            rw [← Int.mul_pow] at p
            have p2 := ipow_mono (Int.mul_nonneg (show 0 ≤ n / m.v + 1 by omega) (show 0 ≤ n % m.v + 1 by omega)) s1 10
            have e : 12 * cnt rs ms (n / m.v) * (12 * cnt rs ms (n % m.v)) = 144 * (cnt rs ms (n / m.v) * cnt rs ms (n % m.v)) := by
              rw [Int.mul_assoc, Int.mul_left_comm (cnt rs ms (n / m.v)) 12, ← Int.mul_assoc 12 12]
              rfl
            omega
      · omega
    have hs := sum_le (l := ms.map fun m => 144 * tm (cnt rs ms) m n) (B := (n + 1) ^ 10) fun x hx => by
      obtain ⟨m, hmm, rfl⟩ := List.mem_map.mp hx
      exact ht m hmm
    rw [List.length_map] at hs
    have e : ∀ l : List MR, (l.map fun m => 144 * tm (cnt rs ms) m n).sum = 144 * (l.map fun m => tm (cnt rs ms) m n).sum := fun l => by
      induction l with
      | nil => rfl
      | cons a l ih => rw [List.map_cons, List.sum_cons, ih, List.map_cons, List.sum_cons, Int.mul_add]
    rw [e] at hs
    have h6 : (ms.length : Int) * (n + 1) ^ 10 ≤ 6 * (n + 1) ^ 10 := Int.mul_le_mul_of_nonneg_right (by omega) (by omega)
    omega
theorem cnt_log2 (hv : ∀ m ∈ ms, 2 ≤ m.v) (hr : rs.length ≤ 24) (hm : ms.length ≤ 6) {n : Int} {j : Nat} (h1 : 0 ≤ n) (h2 : n < 2 ^ j) : (one0 rs ms n).natAbs < 2 ^ (10 * (j + 1)) := by
  unfold one0
  split
  · exact Nat.one_lt_two_pow (by omega)
  · have a := cnt_pow hv hr hm n.toNat n (by omega) (Nat.le_refl _)
    have b := cnt_nn (rs := rs) (ms := ms) n
    have c : (n + 1) ^ 10 ≤ (2 ^ (j + 1)) ^ 10 := ipow_mono (by omega) (by have := pow2_pos j; rw [Int.pow_succ]; omega) 10
    rw [← Int.pow_mul] at c
    have d : (0 : Int) < 2 ^ ((j + 1) * 10) := by have := pow2_pos ((j + 1) * 10); omega
    rw [show 10 * (j + 1) = (j + 1) * 10 by omega]
    have e : ((2 ^ ((j + 1) * 10) : Nat) : Int) = (2 : Int) ^ ((j + 1) * 10) := by rw [Int.natCast_pow]; rfl
    generalize (2 : Int) ^ ((j + 1) * 10) = y at *
    omega
end
end KN
end
section
set_option Elab.async false
set_option linter.all false
set_option maxRecDepth 100000
set_option maxHeartbeats 4000000
set_option pp.maxSteps 1500
set_option pp.deepTerms false
local macro_rules | `(tactic| walk_at "ne") => `(tactic| first
  | assumption | (apply Ne.symm; assumption)
  | exact R.ne_new (by assumption) | exact (R.ne_new (by assumption)).symm
  | exact L2.ne_of_none (by assumption) (by assumption) | exact (L2.ne_of_none (by assumption) (by assumption)).symm
  | exact L2.ne_of_none (by assumption) (R.free_new (by assumption)) | exact (L2.ne_of_none (by assumption) (R.free_new (by assumption))).symm)
local macro_rules | `(tactic| walk_at "at") => `(tactic| first
  | assumption | exact L2.upd_same
  | (refine R.sb (H := ?H) (p := ?p) ?e ?n ?h; (case e => assumption); (case n => walk_at "ne"); (case h => walk_at "at"))
  | (refine R.sm (H := ?H) ?e ?h; (case e => assumption); (case h => walk_at "at"))
  | (refine Eq.trans (L2.upd_ne ?_) ?_ <;> first | walk_at "ne" | walk_at "at"))
local macro_rules | `(tactic| walk_at "sqt") => `(tactic| first | assumption | (refine L2.SqT.of ?_; walk_at "at"))
local macro_rules | `(tactic| walk_at "ty") => `(tactic| first | exact R.tyN | exact R.tyB | exact R.tyI | exact R.tyS | (refine R.tyT (xs := ?xs) ?h; case h => walk_at "at") | (refine R.tyL (xs := ?xs) ?h; case h => walk_at "at"))
local macro_rules | `(tactic| walk_at "kit") => `(tactic| first | exact R.kit_NoneType_tuple | exact R.kit_NoneType_list | exact R.kit_NoneType_bool | exact R.kit_NoneType_str | exact R.kit_NoneType_int | exact R.kit_bool_tuple | exact R.kit_bool_list | exact R.kit_bool_bool | exact R.kit_bool_str | exact R.kit_bool_int | exact R.kit_int_tuple | exact R.kit_int_list | exact R.kit_int_bool | exact R.kit_int_str | exact R.kit_int_int | exact R.kit_str_tuple | exact R.kit_str_list | exact R.kit_str_bool | exact R.kit_str_str | exact R.kit_str_int | exact R.kit_tuple_tuple | exact R.kit_tuple_list | exact R.kit_tuple_bool | exact R.kit_tuple_str | exact R.kit_tuple_int | exact R.kit_list_tuple | exact R.kit_list_list | exact R.kit_list_bool | exact R.kit_list_str | exact R.kit_list_int)
local macro_rules | `(tactic| walk_at "sz") => `(tactic| first | assumption | (refine Nat.le_trans ?_ (show 1000 ≤ PySem.sizeLine by decide); omega) | decide)
local macro_rules | `(tactic| walk_at "szl") => `(tactic| first | assumption | exact Nat.le_of_lt (L2.small1000 (by omega)) | decide | decide +kernel)
local macro_rules | `(tactic| walk_at "sys") => `(tactic| first | assumption | exact KN.SysAt.same (by assumption) (by assumption))
local macro_rules | `(tactic| walk_at "dk") => `(tactic| first | exact R.rowsS _ _ | exact R.rowsM _ _)
local macro_rules | `(tactic| walk_at "sqa") => `(tactic| first | assumption | exact R.SeqA.same (by assumption) (by assumption) | exact R.SeqA.new (by assumption) (by assumption) | (exact Or.inl (by walk_at "at")) | (exact Or.inr (by walk_at "at")))
local macro_rules | `(tactic| walk_at "ix") => `(tactic| first | rfl | (exact L2.atI_nat (by assumption)) | assumption)
local macro_rules | `(tactic| walk_at "cond") => `(tactic| first
  | exact Or.inl (by decide) | exact Or.inr (by decide) | exact Or.inl ⟨by omega, by omega⟩ | exact Or.inr ⟨by omega, by omega⟩
  | (constructor <;> omega) | (show _ ≠ _; omega) | decide | omega)
local macro_rules | `(tactic| walk_at "r1") => `(tactic| first
  | with_reducible refine R.seq ?_ | with_reducible refine R.asg ?_ | with_reducible refine R.ifs ?_ | with_reducible refine R.ret ?_ | with_reducible refine R.retN ?_ | with_reducible refine R.drop ?_ | with_reducible refine R.next ?_
  | with_reducible refine R.op ?_ | ((with_reducible refine R.var (v := ?v) ?h ?q); case h => rfl) | with_reducible refine R.c ?_ | with_reducible refine R.tst ?_ | with_reducible refine R.tb_ ?_ | with_reducible refine R.ex ?_
  | with_reducible refine R.i0 ?_ | with_reducible refine R.eqI ?_ | with_reducible refine R.neI ?_ | ((with_reducible refine R.ic ?_ ?_); · walk_at "cond") | with_reducible refine R.u0 ?_ | with_reducible refine R.un ?_
  | ((with_reducible refine R.eq ?_ ?_); · rfl) | ((with_reducible refine R.ne ?_ ?_); · rfl)
  | with_reducible refine R.and_ ?_ | with_reducible refine R.or_ ?_ | with_reducible refine R.not_ ?_ | with_reducible refine R.ife ?_ | with_reducible refine R.chain ?_
  | with_reducible refine R.cons ?_ | with_reducible refine R.nil ?_ | with_reducible refine R.call ?_ | with_reducible refine R.cb ?_ | with_reducible refine R.bm ?_
  | with_reducible refine R.gname ?_ | with_reducible refine R.gsub ?_ | with_reducible refine R.gnil ?_ | with_reducible refine R.gcons ?_ | with_reducible refine R.yes ?_
  | with_reducible refine R.int1 ?_ | ((with_reducible refine R.lenL (xs := ?xs) ?h ?q); case h => walk_at "at")
  | ((with_reducible refine R.ixL (xs := ?xs) (v := ?v) ?h ?e ?q); (case h => walk_at "at"); (case e => walk_at "ix"))
  | ((with_reducible refine R.setL (xs := ?xs) (n := ?n) ?h ?e ?q); (case h => walk_at "at"); (case e => rfl))
  | ((with_reducible refine R.append (xs := ?xs) ?h ?e ?q); (case h => walk_at "at"); (case e => walk_at "cond"))
  | with_reducible refine R.is_ ?_ | with_reducible refine R.isnot ?_ | with_reducible refine R.andV ?_ | with_reducible refine R.orV ?_ | with_reducible refine R.notV ?_
  | ((with_reducible refine R.isi (s := ?s) (b := ?b) ?ty ?h ?q); (case ty => walk_at "ty"); (case h => walk_at "kit"))
  | ((with_reducible refine R.addS ?h ?q); (case h => walk_at "sz")) | with_reducible refine R.max2 ?_ | with_reducible refine R.min2 ?_
  | ((with_reducible refine R.lenStr ?h ?q); (case h => walk_at "szl")) | ((with_reducible refine R.ixS (n := ?n) ?h ?e ?q); (case h => walk_at "szl"); (case e => walk_at "ix"))
  | ((with_reducible refine R.tyl (xs := ?xs) ?h ?q); (case h => walk_at "at")) | with_reducible refine R.itlist ?_ | with_reducible refine R.ittup ?_ | with_reducible refine R.m1 ?_ | with_reducible refine R.m1s ?_ | with_reducible refine R.leS ?_ | with_reducible refine R.itstr ?_ | with_reducible refine R.itstrE ?_ | with_reducible refine R.lc ?_ | with_reducible refine R.lc2 ?_ | with_reducible refine R.ckw ?_ | with_reducible refine R.par ?_ | with_reducible refine R.parE ?_ | with_reducible refine R.itrev ?_ | with_reducible refine R.dsetd ?_ | with_reducible refine R.dnotin_ ?_ | with_reducible refine R.for_ ?_ | ((with_reducible refine R.all_ (bs := ?bs) ?h ?q); (case h => walk_at "at"))
  | with_reducible refine R.rng1 ?_ | ((with_reducible refine R.rngE ?h ?q); (case h => (constructor <;> omega)))
  | ((with_reducible refine R.lenT (xs := ?xs) ?h ?q); (case h => walk_at "sqt")) | ((with_reducible refine R.ixT (xs := ?xs) (v := ?v) ?h ?e ?q); (case h => walk_at "sqt"); (case e => walk_at "ix"))
  | ((refine R.itlE (xs := ?xs) ?h ?q); (case h => walk_at "at")) | ((refine R.ittE (xs := ?xs) ?h ?q); (case h => walk_at "at"))
  | ((refine R.gseq (xs := ?xs) ?h ?e ?q); (case h => walk_at "sqa"); (case e => rfl)) | ((refine R.ixA (xs := ?xs) (v := ?v) ?h ?e ?q); (case h => walk_at "sqa"); (case e => walk_at "ix")) | ((refine R.lenA (xs := ?xs) ?h ?q); (case h => walk_at "sqa"))
  | ((with_reducible refine R.gtup (xs := ?xs) ?h ?e ?q); (case h => walk_at "sqt"); (case e => rfl))
  | with_reducible refine R.din_ ?_ | with_reducible refine R.dput_ ?_
  | with_reducible refine R.dget2_ ?_ | ((with_reducible refine R.aug_ (x := ?x) ?h ?q); case h => rfl) | with_reducible refine R.ipI_ ?_
  | with_reducible refine R.rng2 ?_ | ((with_reducible refine R.rngE2 ?h ?q); (case h => (refine ⟨?_, ?_, ?_, ?_⟩ <;> omega)))
  | with_reducible refine R.brk ?_ | with_reducible refine R.intB ?_ | with_reducible refine R.meth_ ?_ | ((refine KN.methS (rs := ?rs) (ms := ?ms) ?h (fun _ _ _ _ => rfl) ?q); case h => walk_at "sys")
  | with_reducible refine R.sl_ ?_ | with_reducible refine R.np_ ?_ | with_reducible refine R.pt_ ?_ | with_reducible refine R.ptE ?_ | with_reducible refine R.dget_ ?_ | with_reducible refine R.revL_ ?_
  | ((refine R.dgetS (kvs := ?kvs) (v := ?v) ?h ?e ?q); (case h => walk_at "at"); (case e => walk_at "dk"))
  | with_reducible refine R.sfld ?_ | with_reducible refine R.fld_ ?_ | with_reducible refine R.dc ?_
  | with_reducible refine R.dget1_ ?_
  | with_reducible refine R.itseq ?_ | with_reducible refine R.itenum ?_
  | with_reducible refine R.itT ?_ | with_reducible refine R.itF ?_ | with_reducible refine R.itNT ?_ | with_reducible refine R.itNF ?_
  | (with_reducible refine R.tup ?_) | (with_reducible refine R.lst ?_))
local macro_rules | `(tactic| walk_at "rd") => `(tactic| (repeat (first | walk_at "r1" | (dsimp only [Int.reduceToNat, List.set_cons_succ, List.set_cons_zero, List.length_cons, List.length_nil, List.nil_append, List.cons_append, List.append_nil]))))
local macro_rules | `(tactic| walk_at "go") => `(tactic| (rw [R.start_eq]; dsimp only [R.startE, List.map_nil]; walk_at "rd"))
local macro_rules | `(tactic| walk_at "r1") => `(tactic| first | with_reducible refine R.callN ?_ | with_reducible refine R.tr_ ?_ | with_reducible refine R.rng3 ?_ | with_reducible refine R.bits ?_ | with_reducible refine R.dnewT ?_)
-- RTX
namespace KN
open PySem L2 SX R
open C8 (Cal Def cal0 pe_c pe_gc fnScope fnBody pss_cut Met pe_mt pe_mt0)
section
variable {P : Program} {w : World} {K : PySem.W.Frag} {mg : Str → Option Value} {base : Heap}
abbrev sLcount : Stmt := top 34
theorem scLcount : FnScope ["rows", "number", "known", "found", "word", "value", "most", "is_unsaid", "last", "count", "rest", "ahead"] ["rows", "number", "known"] (fnScope sLcount) := ⟨rfl, rfl, rfl, by decide +kernel, rfl, by decide +kernel, by decide +kernel⟩
/-- the keys of a dict of numbers: how many of them are great -/
def bigK (q : Key) : Bool := match q with
  | .inl n => decide (9000 < n)
  | .inr _ => false
structure KeysG (l : List Key) (G : Nat) : Prop where
  nd : l.Nodup
  pos : ∀ q ∈ l, ∃ n : Int, q = Sum.inl n ∧ 1 ≤ n
  big : (l.filter bigK).length ≤ G
theorem KeysG.len {l : List Key} {G : Nat} (h : KeysG l G) : l.length ≤ 9000 + G := by
  have a := known_len (l := l.filter fun q => !bigK q) (h.nd.filter _) fun q hq => by
    obtain ⟨h1, h2⟩ := List.mem_filter.mp hq
    obtain ⟨n, rfl, n1⟩ := h.pos q h1
    refine ⟨n, rfl, n1, ?_⟩
    have : bigK (Sum.inl n : Key) = decide (9000 < n) := rfl
    rw [this, Bool.not_eq_true', decide_eq_false_iff_not] at h2
    omega
  have e : l.length = (l.filter bigK).length + (l.filter fun q => !bigK q).length := by
    clear a h
    induction l with
    | nil => rfl
    | cons x l ih =>
      cases hb : bigK x with
      | true => rw [List.filter_cons_of_pos hb, List.filter_cons_of_neg (by rw [hb]; decide), List.length_cons, List.length_cons]; omega
      | false => rw [List.filter_cons_of_neg (by rw [hb]; decide), List.filter_cons_of_pos (by rw [hb]; rfl), List.length_cons, List.length_cons]; omega
  have := h.big
  omega
theorem KeysG.mono {l : List Key} {G G' : Nat} (h : KeysG l G) (q : G ≤ G') : KeysG l G' := ⟨h.nd, h.pos, Nat.le_trans h.big q⟩
theorem KeysG.put {kvs : List (Key × V)} {G : Nat} (h : KeysG (kvs.map (·.1)) G) {n : Int} (n1 : 1 ≤ n) (v : V) : KeysG ((putK kvs (Sum.inl n : Key) v).map (·.1)) (if n ≤ 9000 then G else G + 1) := by
  rcases keys_put kvs (Sum.inl n : Key) v with ⟨_, e⟩ | ⟨e0, e⟩
  · rw [e]; exact h.mono (by split <;> omega)
  · rw [e]
    refine ⟨nodup_snoc h.nd e0, fun q hq => ?_, ?_⟩
    · rcases List.mem_append.mp hq with e | e
      · exact h.pos q e
      · exact ⟨n, List.mem_singleton.mp e, n1⟩
    · rw [List.filter_append, List.length_append]
      have hb := h.big
      have e1 : bigK (Sum.inl n : Key) = decide (9000 < n) := rfl
      by_cases z : n ≤ 9000
      · rw [if_pos z, List.filter_cons_of_neg (by rw [e1, decide_eq_false (by omega)]; decide)]
        show _ + 0 ≤ G
        omega
      · rw [if_neg z, List.filter_cons_of_pos (by rw [e1]; exact decide_eq_true (by omega))]
        show _ + 1 ≤ G + 1
        omega
def KnownC (H : Hp) (d : Addr) (rs : List SR) (ms : List MR) (G : Nat) : Prop := ∃ kvs : List (Key × V), H d = some (.dK kvs) ∧ (∀ (n : Int) (v : V), valV kvs (Sum.inl n : Key) = some v → v = .int (cnt rs ms n)) ∧ KeysG (kvs.map (·.1)) G
theorem KnownC.mono {H : Hp} {d : Addr} {rs : List SR} {ms : List MR} {G G' : Nat} (h : KnownC H d rs ms G) (q : G ≤ G') : KnownC H d rs ms G' := by
  obtain ⟨kvs, h1, h2, h3⟩ := h
  exact ⟨kvs, h1, h2, h3.mono q⟩
theorem KnownC.put {H : Hp} {d : Addr} {rs : List SR} {ms : List MR} {n : Int} {G : Nat} (h : KnownC H d rs ms G) (n1 : 1 ≤ n) (g : G ≤ 1000000) : ∃ kvs, H d = some (.dK kvs) ∧ kvs.length < sizeLine ∧ KnownC (upd H d (.dK (putK kvs (Sum.inl n : Key) (.int (cnt rs ms n))))) d rs ms (if n ≤ 9000 then G else G + 1) := by
  obtain ⟨kvs, h1, h2, h3⟩ := h
  have hl := h3.len
  rw [List.length_map] at hl
  refine ⟨kvs, h1, by show _ < 2 ^ 24; omega, _, upd_same, fun m v hm => ?_, h3.put n1 _⟩
  rw [valV_put] at hm
  split at hm
  · rename_i e
    cases e
    cases hm
    rfl
  · exact h2 m v hm
theorem KnownC.same {H H' : Hp} {d : Addr} {rs : List SR} {ms : List MR} {G : Nat} (h : KnownC H d rs ms G) (s : Same H H') : KnownC H' d rs ms G := by
  obtain ⟨kvs, h1, h2⟩ := h
  exact ⟨kvs, s _ _ h1, h2⟩
theorem RowsAt.known {H H' : Hp} {r d : Addr} {rs rs' : List SR} {ms ms' : List MR} {G : Nat} (h : RowsAt H r rs ms) (k : KnownC H d rs' ms' G) (e : SameBut d H H') : RowsAt H' r rs ms := by
  obtain ⟨s, m, xs, ys, h1, h2, h3, h4, h5⟩ := h
  obtain ⟨kvs, k1, k2, k3⟩ := k
  have rd : r ≠ d := by
    rintro rfl
    rw [h1] at k1
    cases k1
    obtain ⟨n, hn, _⟩ := k3.pos (Sum.inr (Str.ofString "simple")) (List.mem_map.mpr ⟨_, List.mem_cons_self, rfl⟩)
    cases hn
  exact ⟨s, m, xs, ys, e _ _ rd h1, e _ _ (ne_of h2 k1 (by intro z; cases z)) h2, h3.keep (fun a d h => e _ _ (ne_of h k1 (by intro z; cases z)) h), e _ _ (ne_of h4 k1 (by intro z; cases z)) h4, h5.keep (fun a d h => e _ _ (ne_of h k1 (by intro z; cases z)) h)⟩
/-- how many great keys there can be, some multipliers gone through -/
def bud (G j : Nat) (n : Int) (l : List MR) : Nat := G + if n ≤ 9000 then 0 else j * (l.filter fun m => m.c.isNone).length
theorem bud_snoc (G j : Nat) (n : Int) (l : List MR) (m : MR) : bud G j n (l ++ [m]) = bud G j n l + (if n ≤ 9000 then 0 else if m.c.isNone = true then j else 0) := by
  unfold bud
  split
  · rfl
  · rw [List.filter_append, List.length_append, Nat.mul_add]
    by_cases z : m.c.isNone = true
    · rw [show [m].filter (fun m => m.c.isNone) = [m] from List.filter_cons_of_pos (p := fun m : MR => m.c.isNone) z, if_pos z]
      show _ + (_ + j * 1) = _
      omega
    · rw [show [m].filter (fun m => m.c.isNone) = [] from List.filter_cons_of_neg (p := fun m : MR => m.c.isNone) z, if_neg z]
      rfl
theorem not_bounded {rs : List SR} {ms : List MR} (g : GoodSys rs ms) (hb : bmax rs ms ≤ 9000) {m : MR} (hm : m ∈ ms) {n c : Int} (hc : m.c = some c) (h : okT m n = true) : n ≤ 9000 := by
  obtain ⟨_, b2, b3⟩ := bmm_max ms (bms 0 rs)
  have := b2 m hm c hc
  obtain ⟨o1, o2, o3⟩ := okT_iff.mp h
  rw [hc] at o3
  have o4 : n / m.v ≤ c := of_decide_eq_true o3
  have lo := (g.m m hm).lo
  have e := Int.mul_ediv_add_emod n m.v
  have : m.v * (n / m.v) ≤ m.v * c := Int.mul_le_mul_of_nonneg_left o4 (by omega)
  have e2 : m.v * c = c * m.v := Int.mul_comm _ _
  unfold bmax at hb
  omega
def spCountG (j : Nat) : Sp := fun vs H Q _ => ∃ (r d : Addr) (rs : List SR) (ms : List MR) (n : Int) (G : Nat), vs = [.ref r, .int n, .ref d] ∧ RowsAt H r rs ms ∧ GoodSys rs ms ∧ KnownC H d rs ms G ∧ 1 ≤ n ∧ n < 2 ^ j ∧ j ≤ 1000 ∧ G + (if n ≤ 9000 then 0 else j) ≤ 900000 ∧ bmax rs ms ≤ 9000 ∧ (∀ m ∈ ms, m.v ≤ 9000) ∧
  ∀ H', SameBut d H H' → KnownC H' d rs ms (if n ≤ 9000 then G else G + j) → Q (.int (cnt rs ms n)) H'
theorem c_lcountG (Z : Zs mg) {f : Addr} {fd : FuncData} (F : Def K mg "_law_count" sLcount f fd) (b : Binds K fd ["rows", "number", "known"] []) : ∀ j, Cal P w K mg base (j + 1) "_law_count" (spCountG j) []
  | 0 => by
    refine cal0 F b .nil scLcount (fun vs H Q E h => ?_) (fun cdv A outer s H vs Q E hr h => ?_)
    · obtain ⟨r, d, rs, ms, n, G, rfl, _⟩ := h
      rfl
    · obtain ⟨r, d, rs, ms, n, G, rfl, _, _, _, n1, n2, _⟩ := h
      have : (2 : Int) ^ 0 = 1 := rfl
      omega
  | j + 1 => by
    have c_count := c_lcountG Z F b j
    refine cal0 F b .nil scLcount (fun vs H Q E h => ?_) (fun cdv A outer s H vs Q E hr h => ?_)
    · obtain ⟨r, d, rs, ms, n, G, rfl, _⟩ := h
      rfl
    · obtain ⟨r, d, rs, ms, n, G, rfl, hR, hg, hK, n1, n2, j9, g9, hbm, hv9, k⟩ := h
      refine ⟨_, pss_cons (ps_if (pt_cmp (pc_din (hu_of hr) (pv 1) (pv 2)))
        (pss_one (ps_ret (pe_dget (hu_of hr) (pv 2) (pv 1) (fun _ _ => rfl))))
        (pss_nil))
      (pss_cons (ps_set (i := 3) scLcount.nd rfl (Or.inl rfl) (pe_callB (kLen K) (by rfl) Z.len PySem.boot_len (pa_cons (pe_lc (own := [("word", 4), ("value", 5)]) rfl scLcount.nd (kiL K (pe_dget (hu_of hr) (pv 0) pe_str (fun _ _ => rfl))) (blkOk_by (own := [("word", 4), ("value", 5)]) (N := ["rows", "number", "known", "found", "word", "value", "most", "is_unsaid", "last", "count", "rest", "ahead"]) (sc := fnScope sLcount) (by decide +kernel)) (fun _ _ _ _ _ => (kgTup K (n := 2) rfl (pgs_cons (pg_name (i := 4) scLcount.nd rfl (Or.inl rfl)) (pgs_cons (pg_name (i := 5) scLcount.nd rfl (Or.inl rfl)) pgs_nil)))) (fun _ _ _ _ _ => pts_one (pt_cmpR op_eq (pv 5) (pv 1) (nomark _))) (fun _ _ _ _ _ => pv 4)) pa_nil)))
      (pss_cons (ps_for PassesOwn.never rfl (kiL K (pe_dget (hu_of hr) (pv 0) pe_str (fun _ _ => rfl))) (kgTup K (n := 5) rfl (pgs_cons (pg_name (i := 4) scLcount.nd rfl (Or.inl rfl)) (pgs_cons (pg_name (i := 5) scLcount.nd rfl (Or.inl rfl)) (pgs_cons (pg_name (i := 6) scLcount.nd rfl (Or.inl rfl)) (pgs_cons (pg_name (i := 7) scLcount.nd rfl (Or.inl rfl)) (pgs_cons (pg_name (i := 8) scLcount.nd rfl (Or.inl rfl)) pgs_nil))))))
        (pss_cons (ps_set (i := 9) scLcount.nd rfl (Or.inl rfl) (pe_op op_fdivN (pv 1) (pv 5)))
      (pss_cons (ps_set (i := 10) scLcount.nd rfl (Or.inl rfl) (pe_op op_sub (pv 1) (pe_op op_mulW (pv 9) (pv 5))))
      (pss_one (ps_if (PW.pt (pw_and (pt_cmpR op_gt (pv 9) pe_int (nomark _)) (pw_and (pt_cmpR op_le (pv 10) (pv 8) (nomark _)) (pw_and1 (PW.pt (pw_or (pt_cmpR oIs (pv 6) pe_non (nomark _)) (pw_or1 (pt_cmpR op_le (pv 9) (pv 6) (nomark _)))))))))
        (pss_cut (ps_set (i := 11) scLcount.nd rfl (Or.inl rfl) (pe_ifExp (PW.pt (pw_and (pt_val (pv 7)) (pw_and1 (pt_cmpR op_eq (pv 9) pe_int (nomark _))))) pe_int (pe_c c_count hr (by omega) (by rfl) (pa_cons (pv 0) (pa_cons (pv 9) (pa_cons (pv 2) pa_nil))))))
      (pss_one (ps_set (i := 3) scLcount.nd rfl (Or.inl rfl) (pe_op op_add (pv 3) (pe_op op_mulW (pv 11) (pe_ifExp (pt_cmpR op_eq (pv 10) pe_int (nomark _)) pe_int (pe_c c_count hr (by omega) (by rfl) (pa_cons (pv 0) (pa_cons (pv 10) (pa_cons (pv 2) pa_nil))))))))))
        (pss_nil))))))
      (pss_cons (ps_dput (hu_of hr) (pv 2) (pv 1) (pv 3) rfl)
      (pss_one (ps_ret (pv 3)))))), ?_⟩
      obtain ⟨s, m, xs, ys, hr0, hs, hts, hm, htm⟩ := id hR
      have lx : xs.length = rs.length := by have := hts.len; rwa [List.length_map] at this
      have ly : ys.length = ms.length := by have := htm.len; rwa [List.length_map] at this
      have sl := hg.sl
      have ml := hg.ml
      have hvv : ∀ m ∈ ms, 2 ≤ m.v := fun m hm => (hg.m m hm).lo
      obtain ⟨kvs, hd, hk1, hk2⟩ := id hK
      walk_at "go"
      refine R.dinI hd ?_
      cases e : valV kvs (Sum.inl n : Key) with
      | some v =>
        have ev := hk1 n v e
        subst ev
        walk_at "rd"
        rw [Option.isSome_some]
        walk_at "rd"
        refine R.dgetI hd e ?_
        exact k H SameBut.refl (hK.mono (by split <;> omega))
      | none =>
        walk_at "rd"
        rw [Option.isSome_none]
        walk_at "rd"
        intro D hD
        refine lc_it (walk_list (K := K) (a := s) (xs := xs)) (fun i H' => Same H H' ∧ ∃ acc, H' D = some (.lst acc) ∧ acc.length = ((rs.take i).filter fun r => decide (r.v = n)).length) ⟨same_new (Same.refl _) hD, [], upd_same, rfl⟩ (fun i H' _ hh => SqL.of (hh.1 _ _ hs)) ?_ ?_
        · rintro i u H1 H1' hi ⟨s1, acc, h1, h2⟩ ⟨rfl, hu⟩
          have hri : rs[i]? = some rs[i] := List.getElem?_eq_getElem (by omega)
          obtain ⟨b, hya, hb⟩ := hts.get i (srV rs[i]) (by rw [List.getElem?_map, hri]; rfl)
          rw [hya] at hu
          cases hu
          have et : rs.take (i + 1) = rs.take i ++ [rs[i]] := by rw [List.take_add_one, hri]; rfl
          have acl : acc.length ≤ 24 := by
            have q := List.length_filter_le (fun r : SR => decide (r.v = n)) (rs.take i)
            rw [List.length_take] at q
            omega
          rw [et, List.filter_append, List.length_append, ← h2]
          generalize rs[i] = rr at *
          have hb2 : H1' b = some (.tup [.str rr.w, .int rr.v]) := s1 _ _ hb
          refine R.gtup (SqT.of hb2) rfl ?_
          refine R.gcons ?_
          refine R.gname ?_
          refine R.gcons ?_
          refine R.gname ?_
          refine R.gnil ⟨rfl, ?_⟩
          walk_at "rd"
          refine it (fun h3 => ?_) (fun h3 => ?_)
          · walk_at "rd"
            refine ⟨acc, h1, small1000 (by omega), same_put s1 hD, acc ++ [_], upd_same, ?_⟩
            rw [List.filter_cons_of_pos (by exact decide_eq_true h3), List.length_append]
            rfl
          · refine ⟨s1, acc, h1, ?_⟩
            rw [List.filter_cons_of_neg (by rw [decide_eq_false h3]; exact Bool.false_ne_true)]
            rfl
        · rintro H1 ⟨s1, acc, h1, h2⟩
          rw [lx, List.take_of_length_le (Nat.le_refl _)] at h2
          have hr1 := s1 _ _ hr0
          have hm1 := s1 _ _ hm
          have hR1 := hR.same s1
          have hK1 := hK.same s1
          have hd1 := s1 _ _ hd
          walk_at "rd"
          have eb : (acc.length : Int) = base0 rs n := by unfold base0; rw [h2]
          rw [eb]
          refine for_it (walk_list (K := K) (a := m) (xs := ys)) (fun i σ' H' => ∃ q4 q5 q6 q7 q8 q9 q10 q11, σ' = [some (.ref r), some (.int n), some (.ref d), some (.int (base0 rs n + ((ms.take i).map fun m => tm (cnt rs ms) m n).sum)), q4, q5, q6, q7, q8, q9, q10, q11] ∧ SameBut d H1 H' ∧ KnownC H' d rs ms (bud G j n (ms.take i)))
            ⟨_, _, _, _, _, _, _, _, by rw [List.take_zero, List.map_nil]; show _ = [_, _, _, some (V.int (base0 rs n + 0)), _, _, _, _, _, _, _, _]; rw [Int.add_zero], SameBut.refl, hK1.mono (by unfold bud; omega)⟩ (fun i σ' H' _ hh => by obtain ⟨_, _, _, _, _, _, _, _, _, e, _⟩ := hh; exact SqL.of (e _ _ (ne_of hm1 hd1 (by intro z; cases z)) hm1)) ?_ ?_
          · rintro i u σ' H2 H2' hi ⟨q4, q5, q6, q7, q8, q9, q10, q11, rfl, e2, hK2⟩ ⟨rfl, hu⟩
            have hri : ms[i]? = some ms[i] := List.getElem?_eq_getElem (by omega)
            obtain ⟨b, hya, hb⟩ := htm.get i (mrV ms[i]) (by rw [List.getElem?_map, hri]; rfl)
            rw [hya] at hu
            cases hu
            have et : ms.take (i + 1) = ms.take i ++ [ms[i]] := by rw [List.take_add_one, hri]; rfl
            have gm := hg.m _ (List.mem_of_getElem? hri)
            have hR2 := hR1.known hK1 e2
            have hmem := List.mem_of_getElem? hri
            have hb9 : bud G j n (ms.take i) + (if n ≤ 9000 then 0 else if ms[i].c.isNone = true then j else 0) ≤ G + (if n ≤ 9000 then 0 else j) := by
              rw [← bud_snoc, ← et]
              unfold bud
              split
              · omega
              · have a := List.Sublist.length_le ((List.take_sublist (i + 1) ms).filter fun m => m.c.isNone)
                have b := hg.one
                have c := Nat.mul_le_mul_left j (Nat.le_trans a b)
                omega
            rw [et, List.map_append, List.sum_append, bud_snoc]
            have hnb := fun c hc ok => not_bounded hg hbm hmem (n := n) (c := c) hc ok
            have hv8 := hv9 _ hmem
            generalize ms[i] = mm at *
            obtain ⟨mw, mv, mc, mu, mr⟩ := mm
            generalize bud G j n (ms.take i) = g at *
            dsimp only at hb9 hv8 hnb
            have lo := gm.lo
            have hi2 := gm.hi
            have r0 := gm.r0
            have r1 := gm.r1
            dsimp only at lo hi2 r0 r1
            have e1 : ([(⟨mw, mv, mc, mu, mr⟩ : MR)].map fun m => tm (cnt rs ms) m n).sum = tm (cnt rs ms) ⟨mw, mv, mc, mu, mr⟩ n := by simp
            rw [e1, ← Int.add_assoc]
            generalize base0 rs n + ((ms.take i).map fun m => tm (cnt rs ms) m n).sum = tt
            have hb1 := s1 _ _ hb
            have hb2 : H2' b = some (.tup [.str mw, .int mv, ocnt mc, .bl mu, .int mr]) := e2 _ _ (ne_of hb1 hd1 (by intro z; cases z)) hb1
            have okI := okT_iff (m := ⟨mw, mv, mc, mu, mr⟩) (n := n)
            dsimp only at okI
            have d0 : 0 ≤ n / mv := Int.ediv_nonneg (by omega) (by omega)
            have dn : n / mv ≤ n := Int.ediv_le_self _ (by omega)
            have m0 : 0 ≤ n % mv := Int.emod_nonneg _ (by omega)
            have skip : ¬ (1 ≤ n / mv ∧ n % mv ≤ mr ∧ cle mc (n / mv) = true) → tm (cnt rs ms) ⟨mw, mv, mc, mu, mr⟩ n = 0 := fun h => by
              unfold tm
              rw [if_neg (fun q => h (okI.mp q))]
            have lCn : (n / mv).natAbs < 2 ^ (j + 2) := by
              have a : ((2 ^ (j + 1) : Nat) : Int) = (2 : Int) ^ (j + 1) := by rw [Int.natCast_pow]; rfl
              have b : (2 : Nat) ^ (j + 2) = 2 ^ (j + 1) * 2 := Nat.pow_succ _ _
              rw [← a] at n2
              generalize (2 : Nat) ^ (j + 1) = z at *
              omega
            have ef : n.fdiv mv = n / mv := Int.fdiv_eq_ediv_of_nonneg _ (by omega)
            have er : n - n / mv * mv = n % mv := by rw [Int.emod_def, Int.mul_comm]
            refine R.gtup (SqT.of hb2) rfl ?_
            refine R.gcons ?_
            refine R.gname ?_
            refine R.gcons ?_
            refine R.gname ?_
            refine R.gcons ?_
            refine R.gname ?_
            refine R.gcons ?_
            refine R.gname ?_
            refine R.gcons ?_
            refine R.gname ?_
            refine R.gnil ?_
            walk_at "rd"
            rw [ef]
            refine R.ic (wide_mul (a := j + 2) (b := 20) lCn (by show _ < 1048576; omega) (by omega) (by decide) (by omega)) ?_
            walk_at "rd"
            rw [er]
            have tmx : okT ⟨mw, mv, mc, mu, mr⟩ n = true → tm (cnt rs ms) ⟨mw, mv, mc, mu, mr⟩ n = (if mu = true ∧ n / mv = 1 then 1 else cnt rs ms (n / mv)) * (if n % mv = 0 then 1 else cnt rs ms (n % mv)) := fun h => by
              unfold tm
              rw [if_pos h]
            have hlt' : okT ⟨mw, mv, mc, mu, mr⟩ n = true → n / mv + n % mv < n := fun h => (okT_lt (m := ⟨mw, mv, mc, mu, mr⟩) lo (by omega) h).2.2.2
            have hB2 : 1 ≤ n / mv → n % mv + n % mv < n := fun h => by
              have h1 := Int.mul_ediv_add_emod n mv
              have h2 : mv * 1 ≤ mv * (n / mv) := Int.mul_le_mul_of_nonneg_left h (by omega)
              have h3 : n % mv < mv := Int.emod_lt_of_pos _ (by omega)
              omega
            have hC2 : 1 ≤ n / mv → n / mv + n / mv ≤ n := fun h => by
              have h1 := Int.mul_ediv_add_emod n mv
              have h2 : 2 * (n / mv) ≤ mv * (n / mv) := Int.mul_le_mul_of_nonneg_right lo (by omega)
              omega
            have lC1 : ∀ z : Int, 1 ≤ z → z < (2 : Int) ^ j → (cnt rs ms z).natAbs < 2 ^ (10 * (j + 1)) := fun z z1 hz => by
              have := cnt_log2 (rs := rs) (ms := ms) hvv sl ml (show 0 ≤ z by omega) hz
              unfold one0 at this
              rwa [if_neg (by omega)] at this
            have p2 : (2 : Int) ^ (j + 1) = 2 ^ j * 2 := Int.pow_succ _ _
            rw [p2] at n2
            generalize (2 : Int) ^ j = J at *
            generalize n / mv = C at *
            generalize n % mv = B at *
            walk_at "rd"
            refine it (fun h1 => ?_) (fun h1 => ?_)
            · walk_at "rd"
              refine it (fun h2 => ?_) (fun h2 => ?_)
              · walk_at "rd"
                cases mc with
                | none =>
                  refine itY rfl ?_
                  walk_at "rd"
                  have hcl : cle none C = true := rfl
                  have ok := okI.mpr ⟨by omega, h2, hcl⟩
                  have hB2' := hB2 (by omega)
                  have hC2' := hC2 (by omega)
                  have etm := tmx ok
                  rw [if_pos (show (none : Option Int).isNone = true from rfl)] at hb9
                  have budC : g + (if C ≤ 9000 then 0 else j) ≤ 900000 := by split <;> split at hb9 <;> split at g9 <;> omega
                  have budB : B ≤ 9000 → g + (if n ≤ 9000 then 0 else if (none : Option Int).isNone = true then j else 0) + (if B ≤ 9000 then 0 else j) ≤ 900000 := fun z => by
                    rw [if_pos z, if_pos (show (none : Option Int).isNone = true from rfl)]
                    split at g9 <;> split at hb9 <;> split <;> omega
                  rw [etm]
                  refine R.cut (fun σ' H' => ∃ A : Int, σ' = [some (.ref r), some (.int n), some (.ref d), some (.int tt), some (.str mw), some (.int mv), some (ocnt none), some (.bl mu), some (.int mr), some (.int C), some (.int B), some (.int A)] ∧ A = (if mu = true ∧ C = 1 then 1 else cnt rs ms C) ∧ SameBut d H1 H' ∧ KnownC H' d rs ms (g + if n ≤ 9000 then 0 else if (none : Option Int).isNone = true then j else 0) ∧ A.natAbs < 2 ^ (10 * (j + 1))) ?_ ?_
                  · cases mu with
                    | true =>
                      walk_at "rd"
                      refine it (fun h4 => ?_) (fun h4 => ?_)
                      · rw [if_pos ⟨rfl, h4⟩]
                        walk_at "rd"
                        exact ⟨1, rfl, rfl, e2, hK2.mono (by omega), Nat.one_lt_two_pow (by omega)⟩
                      · rw [if_neg (fun q => h4 q.2)]
                        walk_at "rd"
                        refine ⟨r, d, rs, ms, C, g, rfl, hR2, hg, hK2, by omega, by omega, by omega, budC, hbm, hv9, fun H3 e3 hK3 => ?_⟩
                        walk_at "rd"
                        exact ⟨_, rfl, rfl, e2.trans e3, hK3.mono (by rw [if_pos (show (none : Option Int).isNone = true from rfl)]; split <;> split <;> omega), lC1 _ (by omega) (by omega)⟩
                    | false =>
                      rw [if_neg (fun q => Bool.false_ne_true q.1)]
                      walk_at "rd"
                      refine ⟨r, d, rs, ms, C, g, rfl, hR2, hg, hK2, by omega, by omega, by omega, budC, hbm, hv9, fun H3 e3 hK3 => ?_⟩
                      walk_at "rd"
                      exact ⟨_, rfl, rfl, e2.trans e3, hK3.mono (by rw [if_pos (show (none : Option Int).isNone = true from rfl)]; split <;> split <;> omega), lC1 _ (by omega) (by omega)⟩
                  · rintro σ' H3 ⟨A, rfl, hA, e3, hK3, lA⟩
                    have hR3 := hR1.known hK1 e3
                    rw [← hA]
                    walk_at "rd"
                    refine it (fun h5 => ?_) (fun h5 => ?_)
                    · rw [if_pos h5]
                      walk_at "rd"
                      refine R.ic (wide_mul (a := 10 * (j + 1)) (b := 1) lA (by decide) (by omega) (by decide) (by omega)) ?_
                      walk_at "rd"
                      exact ⟨_, _, _, _, _, _, _, _, rfl, e3, hK3⟩
                    · rw [if_neg h5]
                      walk_at "rd"
                      have B9 : B ≤ 9000 := by omega
                      refine ⟨r, d, rs, ms, B, _, rfl, hR3, hg, hK3, by omega, by omega, by omega, budB B9, hbm, hv9, fun H4 e4 hK4 => ?_⟩
                      rw [if_pos B9] at hK4
                      refine R.ic (wide_mul (a := 10 * (j + 1)) (b := 10 * (j + 1)) lA (lC1 _ (by omega) (by omega)) (by omega) (by omega) (by omega)) ?_
                      walk_at "rd"
                      exact ⟨_, _, _, _, _, _, _, _, rfl, e3.trans e4, hK4⟩
                | some c =>
                  have ec : cle (some c) C = decide (C ≤ c) := rfl
                  refine itN (fun q => nomatch (show V.int c = V.non from q)) ?_
                  rw [show ocnt (some c) = V.int c from rfl]
                  walk_at "rd"
                  refine it (fun h6 => ?_) (fun h6 => ?_)
                  · have hcl : cle (some c) C = true := by rw [ec]; exact decide_eq_true h6
                    walk_at "rd"
                    have ok := okI.mpr ⟨by omega, h2, hcl⟩
                    have hB2' := hB2 (by omega)
                    have hC2' := hC2 (by omega)
                    have etm := tmx ok
                    have n9 : n ≤ 9000 := hnb c rfl ok
                    rw [if_pos n9, if_pos n9] at hb9
                    rw [if_pos n9] at g9
                    have budC : g + (if C ≤ 9000 then 0 else j) ≤ 900000 := by rw [if_pos (show C ≤ 9000 by omega)]; omega
                    have budB : B ≤ 9000 → g + (if n ≤ 9000 then 0 else if (some c).isNone = true then j else 0) + (if B ≤ 9000 then 0 else j) ≤ 900000 := fun z => by
                      rw [if_pos z, if_pos n9]
                      omega
                    rw [etm]
                    refine R.cut (fun σ' H' => ∃ A : Int, σ' = [some (.ref r), some (.int n), some (.ref d), some (.int tt), some (.str mw), some (.int mv), some (ocnt (some c)), some (.bl mu), some (.int mr), some (.int C), some (.int B), some (.int A)] ∧ A = (if mu = true ∧ C = 1 then 1 else cnt rs ms C) ∧ SameBut d H1 H' ∧ KnownC H' d rs ms (g + if n ≤ 9000 then 0 else if (some c).isNone = true then j else 0) ∧ A.natAbs < 2 ^ (10 * (j + 1))) ?_ ?_
                    · cases mu with
                      | true =>
                        walk_at "rd"
                        refine it (fun h4 => ?_) (fun h4 => ?_)
                        · rw [if_pos ⟨rfl, h4⟩]
                          walk_at "rd"
                          exact ⟨1, rfl, rfl, e2, hK2.mono (by omega), Nat.one_lt_two_pow (by omega)⟩
                        · rw [if_neg (fun q => h4 q.2)]
                          walk_at "rd"
                          refine ⟨r, d, rs, ms, C, g, rfl, hR2, hg, hK2, by omega, by omega, by omega, budC, hbm, hv9, fun H3 e3 hK3 => ?_⟩
                          walk_at "rd"
                          exact ⟨_, rfl, rfl, e2.trans e3, hK3.mono (by rw [if_pos n9, if_pos (show C ≤ 9000 by omega)]; omega), lC1 _ (by omega) (by omega)⟩
                      | false =>
                        rw [if_neg (fun q => Bool.false_ne_true q.1)]
                        walk_at "rd"
                        refine ⟨r, d, rs, ms, C, g, rfl, hR2, hg, hK2, by omega, by omega, by omega, budC, hbm, hv9, fun H3 e3 hK3 => ?_⟩
                        walk_at "rd"
                        exact ⟨_, rfl, rfl, e2.trans e3, hK3.mono (by rw [if_pos n9, if_pos (show C ≤ 9000 by omega)]; omega), lC1 _ (by omega) (by omega)⟩
                    · rintro σ' H3 ⟨A, rfl, hA, e3, hK3, lA⟩
                      have hR3 := hR1.known hK1 e3
                      rw [← hA]
                      walk_at "rd"
                      refine it (fun h5 => ?_) (fun h5 => ?_)
                      · rw [if_pos h5]
                        walk_at "rd"
                        refine R.ic (wide_mul (a := 10 * (j + 1)) (b := 1) lA (by decide) (by omega) (by decide) (by omega)) ?_
                        walk_at "rd"
                        exact ⟨_, _, _, _, _, _, _, _, rfl, e3, hK3⟩
                      · rw [if_neg h5]
                        walk_at "rd"
                        have B9 : B ≤ 9000 := by omega
                        refine ⟨r, d, rs, ms, B, _, rfl, hR3, hg, hK3, by omega, by omega, by omega, budB B9, hbm, hv9, fun H4 e4 hK4 => ?_⟩
                        rw [if_pos B9] at hK4
                        refine R.ic (wide_mul (a := 10 * (j + 1)) (b := 10 * (j + 1)) lA (lC1 _ (by omega) (by omega)) (by omega) (by omega) (by omega)) ?_
                        walk_at "rd"
                        exact ⟨_, _, _, _, _, _, _, _, rfl, e3.trans e4, hK4⟩
                  · rw [skip (fun q => h6 (of_decide_eq_true (ec ▸ q.2.2))), Int.add_zero]
                    walk_at "rd"
                    exact ⟨_, _, _, _, _, _, _, _, rfl, e2, hK2.mono (by omega)⟩
              · rw [skip (fun q => h2 q.2.1), Int.add_zero]
                walk_at "rd"
                exact ⟨_, _, _, _, _, _, _, _, rfl, e2, hK2.mono (by omega)⟩
            · rw [skip (fun q => h1 (by omega)), Int.add_zero]
              walk_at "rd"
              exact ⟨_, _, _, _, _, _, _, _, rfl, e2, hK2.mono (by omega)⟩
          · rintro σ' H2 ⟨q4, q5, q6, q7, q8, q9, q10, q11, rfl, e2, hK2⟩
            rw [ly, List.take_of_length_le (Nat.le_refl _), ← cnt_eq hvv (show (0 : Int) ≤ n by omega)]
            rw [ly, List.take_of_length_le (Nat.le_refl _)] at hK2
            have hb9 : bud G j n ms ≤ G + (if n ≤ 9000 then 0 else j) := by
              unfold bud
              split
              · omega
              · have c := Nat.mul_le_mul_left j hg.one
                omega
            have hb8 : bud G j n ms ≤ 900000 := by split at hb9 <;> split at g9 <;> omega
            obtain ⟨kv2, p1, p2, p3⟩ := hK2.put n1 (by omega)
            walk_at "rd"
            refine R.dputI p1 p2 ?_
            walk_at "rd"
            exact k _ (((SameBut.of s1).trans e2).put) (p3.mono (by split at hb9 <;> split <;> omega))
end
end KN
end
section
set_option Elab.async false
set_option linter.all false
set_option maxRecDepth 100000
set_option maxHeartbeats 4000000
set_option pp.maxSteps 1500
set_option pp.deepTerms false
local macro_rules | `(tactic| walk_at "ne") => `(tactic| first
  | assumption | (apply Ne.symm; assumption)
  | exact R.ne_new (by assumption) | exact (R.ne_new (by assumption)).symm
  | exact L2.ne_of_none (by assumption) (by assumption) | exact (L2.ne_of_none (by assumption) (by assumption)).symm
  | exact L2.ne_of_none (by assumption) (R.free_new (by assumption)) | exact (L2.ne_of_none (by assumption) (R.free_new (by assumption))).symm)
local macro_rules | `(tactic| walk_at "at") => `(tactic| first
  | assumption | exact L2.upd_same
  | (refine R.sb (H := ?H) (p := ?p) ?e ?n ?h; (case e => assumption); (case n => walk_at "ne"); (case h => walk_at "at"))
  | (refine R.sm (H := ?H) ?e ?h; (case e => assumption); (case h => walk_at "at"))
  | (refine Eq.trans (L2.upd_ne ?_) ?_ <;> first | walk_at "ne" | walk_at "at"))
local macro_rules | `(tactic| walk_at "sqt") => `(tactic| first | assumption | (refine L2.SqT.of ?_; walk_at "at"))
local macro_rules | `(tactic| walk_at "ty") => `(tactic| first | exact R.tyN | exact R.tyB | exact R.tyI | exact R.tyS | (refine R.tyT (xs := ?xs) ?h; case h => walk_at "at") | (refine R.tyL (xs := ?xs) ?h; case h => walk_at "at"))
local macro_rules | `(tactic| walk_at "kit") => `(tactic| first | exact R.kit_NoneType_tuple | exact R.kit_NoneType_list | exact R.kit_NoneType_bool | exact R.kit_NoneType_str | exact R.kit_NoneType_int | exact R.kit_bool_tuple | exact R.kit_bool_list | exact R.kit_bool_bool | exact R.kit_bool_str | exact R.kit_bool_int | exact R.kit_int_tuple | exact R.kit_int_list | exact R.kit_int_bool | exact R.kit_int_str | exact R.kit_int_int | exact R.kit_str_tuple | exact R.kit_str_list | exact R.kit_str_bool | exact R.kit_str_str | exact R.kit_str_int | exact R.kit_tuple_tuple | exact R.kit_tuple_list | exact R.kit_tuple_bool | exact R.kit_tuple_str | exact R.kit_tuple_int | exact R.kit_list_tuple | exact R.kit_list_list | exact R.kit_list_bool | exact R.kit_list_str | exact R.kit_list_int)
local macro_rules | `(tactic| walk_at "sz") => `(tactic| first | assumption | (refine Nat.le_trans ?_ (show 1000 ≤ PySem.sizeLine by decide); omega) | decide)
local macro_rules | `(tactic| walk_at "szl") => `(tactic| first | assumption | exact Nat.le_of_lt (L2.small1000 (by omega)) | decide | decide +kernel)
local macro_rules | `(tactic| walk_at "sys") => `(tactic| first | assumption | exact KN.SysAt.same (by assumption) (by assumption))
local macro_rules | `(tactic| walk_at "dk") => `(tactic| first | exact R.rowsS _ _ | exact R.rowsM _ _)
local macro_rules | `(tactic| walk_at "sqa") => `(tactic| first | assumption | exact R.SeqA.same (by assumption) (by assumption) | exact R.SeqA.new (by assumption) (by assumption) | (exact Or.inl (by walk_at "at")) | (exact Or.inr (by walk_at "at")))
local macro_rules | `(tactic| walk_at "ix") => `(tactic| first | rfl | (exact L2.atI_nat (by assumption)) | assumption)
local macro_rules | `(tactic| walk_at "cond") => `(tactic| first
  | exact Or.inl (by decide) | exact Or.inr (by decide) | exact Or.inl ⟨by omega, by omega⟩ | exact Or.inr ⟨by omega, by omega⟩
  | (constructor <;> omega) | (show _ ≠ _; omega) | decide | omega)
local macro_rules | `(tactic| walk_at "r1") => `(tactic| first
  | with_reducible refine R.seq ?_ | with_reducible refine R.asg ?_ | with_reducible refine R.ifs ?_ | with_reducible refine R.ret ?_ | with_reducible refine R.retN ?_ | with_reducible refine R.drop ?_ | with_reducible refine R.next ?_
  | with_reducible refine R.op ?_ | ((with_reducible refine R.var (v := ?v) ?h ?q); case h => rfl) | with_reducible refine R.c ?_ | with_reducible refine R.tst ?_ | with_reducible refine R.tb_ ?_ | with_reducible refine R.ex ?_
  | with_reducible refine R.i0 ?_ | with_reducible refine R.eqI ?_ | with_reducible refine R.neI ?_ | ((with_reducible refine R.ic ?_ ?_); · walk_at "cond") | with_reducible refine R.u0 ?_ | with_reducible refine R.un ?_
  | ((with_reducible refine R.eq ?_ ?_); · rfl) | ((with_reducible refine R.ne ?_ ?_); · rfl)
  | with_reducible refine R.and_ ?_ | with_reducible refine R.or_ ?_ | with_reducible refine R.not_ ?_ | with_reducible refine R.ife ?_ | with_reducible refine R.chain ?_
  | with_reducible refine R.cons ?_ | with_reducible refine R.nil ?_ | with_reducible refine R.call ?_ | with_reducible refine R.cb ?_ | with_reducible refine R.bm ?_
  | with_reducible refine R.gname ?_ | with_reducible refine R.gsub ?_ | with_reducible refine R.gnil ?_ | with_reducible refine R.gcons ?_ | with_reducible refine R.yes ?_
  | with_reducible refine R.int1 ?_ | ((with_reducible refine R.lenL (xs := ?xs) ?h ?q); case h => walk_at "at")
  | ((with_reducible refine R.ixL (xs := ?xs) (v := ?v) ?h ?e ?q); (case h => walk_at "at"); (case e => walk_at "ix"))
  | ((with_reducible refine R.setL (xs := ?xs) (n := ?n) ?h ?e ?q); (case h => walk_at "at"); (case e => rfl))
  | ((with_reducible refine R.append (xs := ?xs) ?h ?e ?q); (case h => walk_at "at"); (case e => walk_at "cond"))
  | with_reducible refine R.is_ ?_ | with_reducible refine R.isnot ?_ | with_reducible refine R.andV ?_ | with_reducible refine R.orV ?_ | with_reducible refine R.notV ?_
  | ((with_reducible refine R.isi (s := ?s) (b := ?b) ?ty ?h ?q); (case ty => walk_at "ty"); (case h => walk_at "kit"))
  | ((with_reducible refine R.addS ?h ?q); (case h => walk_at "sz")) | with_reducible refine R.max2 ?_ | with_reducible refine R.min2 ?_
  | ((with_reducible refine R.lenStr ?h ?q); (case h => walk_at "szl")) | ((with_reducible refine R.ixS (n := ?n) ?h ?e ?q); (case h => walk_at "szl"); (case e => walk_at "ix"))
  | ((with_reducible refine R.tyl (xs := ?xs) ?h ?q); (case h => walk_at "at")) | with_reducible refine R.itlist ?_ | with_reducible refine R.ittup ?_ | with_reducible refine R.m1 ?_ | with_reducible refine R.m1s ?_ | with_reducible refine R.leS ?_ | with_reducible refine R.itstr ?_ | with_reducible refine R.itstrE ?_ | with_reducible refine R.lc ?_ | with_reducible refine R.lc2 ?_ | with_reducible refine R.ckw ?_ | with_reducible refine R.par ?_ | with_reducible refine R.parE ?_ | with_reducible refine R.itrev ?_ | with_reducible refine R.dsetd ?_ | with_reducible refine R.dnotin_ ?_ | with_reducible refine R.for_ ?_ | ((with_reducible refine R.all_ (bs := ?bs) ?h ?q); (case h => walk_at "at"))
  | with_reducible refine R.rng1 ?_ | ((with_reducible refine R.rngE ?h ?q); (case h => (constructor <;> omega)))
  | ((with_reducible refine R.lenT (xs := ?xs) ?h ?q); (case h => walk_at "sqt")) | ((with_reducible refine R.ixT (xs := ?xs) (v := ?v) ?h ?e ?q); (case h => walk_at "sqt"); (case e => walk_at "ix"))
  | ((refine R.itlE (xs := ?xs) ?h ?q); (case h => walk_at "at")) | ((refine R.ittE (xs := ?xs) ?h ?q); (case h => walk_at "at"))
  | ((refine R.gseq (xs := ?xs) ?h ?e ?q); (case h => walk_at "sqa"); (case e => rfl)) | ((refine R.ixA (xs := ?xs) (v := ?v) ?h ?e ?q); (case h => walk_at "sqa"); (case e => walk_at "ix")) | ((refine R.lenA (xs := ?xs) ?h ?q); (case h => walk_at "sqa"))
  | ((with_reducible refine R.gtup (xs := ?xs) ?h ?e ?q); (case h => walk_at "sqt"); (case e => rfl))
  | with_reducible refine R.din_ ?_ | with_reducible refine R.dput_ ?_
  | with_reducible refine R.dget2_ ?_ | ((with_reducible refine R.aug_ (x := ?x) ?h ?q); case h => rfl) | with_reducible refine R.ipI_ ?_
  | with_reducible refine R.rng2 ?_ | ((with_reducible refine R.rngE2 ?h ?q); (case h => (refine ⟨?_, ?_, ?_, ?_⟩ <;> omega)))
  | with_reducible refine R.brk ?_ | with_reducible refine R.intB ?_ | with_reducible refine R.meth_ ?_ | ((refine KN.methS (rs := ?rs) (ms := ?ms) ?h (fun _ _ _ _ => rfl) ?q); case h => walk_at "sys")
  | with_reducible refine R.sl_ ?_ | with_reducible refine R.np_ ?_ | with_reducible refine R.pt_ ?_ | with_reducible refine R.ptE ?_ | with_reducible refine R.dget_ ?_ | with_reducible refine R.revL_ ?_
  | ((refine R.dgetS (kvs := ?kvs) (v := ?v) ?h ?e ?q); (case h => walk_at "at"); (case e => walk_at "dk"))
  | with_reducible refine R.sfld ?_ | with_reducible refine R.fld_ ?_ | with_reducible refine R.dc ?_
  | with_reducible refine R.dget1_ ?_
  | with_reducible refine R.itseq ?_ | with_reducible refine R.itenum ?_
  | with_reducible refine R.itT ?_ | with_reducible refine R.itF ?_ | with_reducible refine R.itNT ?_ | with_reducible refine R.itNF ?_
  | (with_reducible refine R.tup ?_) | (with_reducible refine R.lst ?_))
local macro_rules | `(tactic| walk_at "rd") => `(tactic| (repeat (first | walk_at "r1" | (dsimp only [Int.reduceToNat, List.set_cons_succ, List.set_cons_zero, List.length_cons, List.length_nil, List.nil_append, List.cons_append, List.append_nil]))))
local macro_rules | `(tactic| walk_at "go") => `(tactic| (rw [R.start_eq]; dsimp only [R.startE, List.map_nil]; walk_at "rd"))
local macro_rules | `(tactic| walk_at "r1") => `(tactic| first | with_reducible refine R.callN ?_ | with_reducible refine R.tr_ ?_ | with_reducible refine R.rng3 ?_ | with_reducible refine R.bits ?_ | with_reducible refine R.dnewT ?_)
-- RTX
namespace KN
open PySem L2 SX R
open C8 (Cal Def cal0 pe_c pe_gc fnScope fnBody pss_cut Met pe_mt pe_mt0)
section
variable {P : Program} {w : World} {K : PySem.W.Frag} {mg : Str → Option Value} {base : Heap}
abbrev sLup : Stmt := top 40
theorem scLup : FnScope ["rows", "number", "known", "sums", "row", "value", "rests", "first", "found", "one", "last", "k", "rest"] ["rows", "number", "known", "sums"] (fnScope sLup) := ⟨rfl, rfl, rfl, by decide +kernel, rfl, by decide +kernel, by decide +kernel⟩
theorem WN_some {rs : List SR} {ms : List MR} (hv : ∀ m ∈ ms, 2 ≤ m.v) (cs : List Str) {k : Nat} (h : 1 ≤ k) : (WN rs ms cs k).isSome = decide (cnt rs ms (k : Int) > 0) := by
  unfold WN Wn
  have e := ph_one0 (rs := rs) hv (show (0 : Int) ≤ (k : Int) by omega)
  unfold one0 at e
  rw [if_neg (by omega)] at e
  rw [← e]
  cases ph rs ms (k : Int) with
  | nil => rfl
  | cons a l => exact (decide_eq_true (by rw [List.length_cons]; omega)).symm
section
variable {f : Nat → Option Nat}
def restL (f : Nat → Option Nat) (R : Nat) : List Nat := 0 :: ((List.range R).map (· + 1)).filter fun k => (f k).isSome
theorem restL_snoc (f : Nat → Option Nat) (R : Nat) : restL f (R + 1) = restL f R ++ (if (f (R + 1)).isSome = true then [R + 1] else []) := by
  unfold restL
  rw [List.range_succ, List.map_append, List.filter_append, List.cons_append]
  congr 2
  by_cases h : (f (R + 1)).isSome = true
  · rw [if_pos h]
    exact List.filter_cons_of_pos (p := fun k => (f k).isSome) h
  · rw [if_neg h]
    exact List.filter_cons_of_neg (p := fun k => (f k).isSome) h
theorem restL_len (f : Nat → Option Nat) : ∀ R, (restL f R).length = 1 + sA f R
  | 0 => rfl
  | R + 1 => by
    rw [restL_snoc, List.length_append, restL_len f R]
    show _ = 1 + (sA f R + _)
    by_cases h : (f (R + 1)).isSome = true
    · rw [if_pos h, if_pos h]; rfl
    · rw [if_neg h, if_neg h]; rfl
theorem restL_filter (f : Nat → Option Nat) (ρ : Nat) : ∀ R, ((restL f R).filter fun k => decide (k ≤ ρ)).length = 1 + sA f (min ρ R)
  | 0 => by rw [Nat.min_zero]; rfl
  | R + 1 => by
    have i := restL_filter f ρ R
    rw [restL_snoc, List.filter_append, List.length_append, i]
    by_cases z : R + 1 ≤ ρ
    · rw [Nat.min_eq_right z, Nat.min_eq_right (by omega)]
      show _ = 1 + (sA f R + _)
      by_cases h : (f (R + 1)).isSome = true
      · rw [if_pos h, if_pos h, List.filter_cons_of_pos (by exact decide_eq_true z)]; rfl
      · rw [if_neg h, if_neg h]; rfl
    · rw [Nat.min_eq_left (by omega : ρ ≤ R + 1), Nat.min_eq_left (by omega : ρ ≤ R)]
      by_cases h : (f (R + 1)).isSome = true
      · rw [if_pos h, List.filter_cons_of_neg (by rw [decide_eq_false z]; exact Bool.false_ne_true)]; rfl
      · rw [if_neg h]; rfl
theorem ahE_diff {u : Bool} {a b : Nat} (ha : 1 ≤ a) (hb : 1 ≤ b) : sA (ahE f u) a + sA f b = sA (ahE f u) b + sA f a := by
  cases u with
  | false => rw [ahE_false]; omega
  | true =>
    cases a with
    | zero => omega
    | succ a =>
      cases b with
      | zero => omega
      | succ b =>
        have h1 := (ahE_true (f := f) a).1
        have h2 := (ahE_true (f := f) b).1
        omega
end
theorem up_law {rs : List SR} {ms : List MR} (g : GoodSys rs ms) (cs : List Str) {m : MR} (hm : endF ms = some m) {first last ρ : Nat} (h1 : 2 ≤ first) (hB : (bmax rs ms).toNat < first * m.v.toNat) (h2 : first ≤ last) (hρ : ρ < m.v.toNat) :
    sA (WN rs ms cs) (last * m.v.toNat + ρ) + (1 + sA (WN rs ms cs) m.r.toNat) * sA (WN rs ms cs) (first - 1) = sA (WN rs ms cs) (first * m.v.toNat - 1) + (1 + sA (WN rs ms cs) m.r.toNat) * sA (WN rs ms cs) (last - 1) + (if (WN rs ms cs last).isSome = true then 1 + sA (WN rs ms cs) (min ρ m.r.toNat) else 0) := by
  have gm := g.m m (List.mem_of_find?_eq_some hm)
  have lo := gm.lo
  have r0 := gm.r0
  have r1 := gm.r1
  have v1 : 1 ≤ m.v.toNat := by omega
  have hR : m.r.toNat < m.v.toNat := by omega
  have f0 := WN_zero (rs := rs) (ms := ms) cs
  have q : first * m.v.toNat ≤ last * m.v.toNat := Nat.mul_le_mul_right _ h2
  have t := (s_tail (f := WN rs ms cs) (g := rowEE rs ms cs m) (b := first * m.v.toNat - 1) (n := last * m.v.toNat + ρ) (by omega) fun k a _ => WN_big cs g hm (by omega)).1
  have e1 := (eE_sum (own := ownW cs m.w) (u := m.u) f0 v1 hR (first - 1) (m.v.toNat - 1) (by omega)).1
  have e2 := (eE_sum (own := ownW cs m.w) (u := m.u) f0 v1 hR last ρ hρ).1
  rw [if_neg (by omega)] at e1 e2
  have e3 : (first - 1) * m.v.toNat + (m.v.toNat - 1) = first * m.v.toNat - 1 := by
    obtain ⟨a, rfl⟩ : ∃ a, first = a + 1 := ⟨first - 1, by omega⟩
    rw [Nat.add_sub_cancel, Nat.succ_mul]
    omega
  rw [e3] at e1
  have hal : ahE (WN rs ms cs) m.u last = WN rs ms cs last := by unfold ahE; rw [if_neg (by omega)]
  have b1 : blA (WN rs ms cs) m.r.toNat m.u (first - 1) (m.v.toNat - 1) = (if (ahE (WN rs ms cs) m.u (first - 1)).isSome = true then 1 else 0) * (1 + sA (WN rs ms cs) m.r.toNat) := by
    unfold blA
    rw [show min (m.v.toNat - 1) m.r.toNat = m.r.toNat by omega]
    split
    · rw [Nat.one_mul]
    · rw [Nat.zero_mul]
  have b2 : blA (WN rs ms cs) m.r.toNat m.u last ρ = if (WN rs ms cs last).isSome = true then 1 + sA (WN rs ms cs) (min ρ m.r.toNat) else 0 := by unfold blA; rw [hal]
  rw [b1, ← Nat.add_mul] at e1
  rw [b2] at e2
  have s1 : sA (ahE (WN rs ms cs) m.u) (first - 1 - 1) + (if (ahE (WN rs ms cs) m.u (first - 1)).isSome = true then 1 else 0) = sA (ahE (WN rs ms cs) m.u) (first - 1) := by
    obtain ⟨a, ha⟩ : ∃ a, first - 1 = a + 1 := ⟨first - 2, by omega⟩
    rw [ha]
    rfl
  rw [s1] at e1
  have d := ahE_diff (f := WN rs ms cs) (u := m.u) (a := last - 1) (b := first - 1) (by omega) (by omega)
  unfold rowEE at t
  rw [e1, e2] at t
  have d2 := congrArg (fun x => x * (1 + sA (WN rs ms cs) m.r.toNat)) d
  rw [Nat.add_mul, Nat.add_mul] at d2
  rw [Nat.mul_comm (1 + sA (WN rs ms cs) m.r.toNat), Nat.mul_comm (1 + sA (WN rs ms cs) m.r.toNat)]
  omega
def sumV (f : Nat → Option Nat) (M : Nat) : List V := (List.range (M + 1)).map fun k => V.int (sA f k : Nat)
theorem sumV_at {f : Nat → Option Nat} {M k : Nat} (h : k ≤ M) : (sumV f M)[k]? = some (V.int (sA f k : Nat)) := by
  unfold sumV
  rw [List.getElem?_map, List.getElem?_range (by omega)]
  rfl
theorem sumV_len (f : Nat → Option Nat) (M : Nat) : (sumV f M).length = M + 1 := by unfold sumV; rw [List.length_map, List.length_range]
theorem sumV_snoc (f : Nat → Option Nat) (M : Nat) : sumV f (M + 1) = sumV f M ++ [V.int (sA f (M + 1) : Nat)] := by
  unfold sumV
  rw [List.range_succ, List.map_append]
  rfl
theorem sumV_last (f : Nat → Option Nat) (M : Nat) : atI (sumV f M) (-1) = some (V.int (sA f M : Nat)) := atI_end (sumV_len f M) (sumV_at (Nat.le_refl _))
/-- how far the sums reach -/
structure Far (rs : List SR) (ms : List MR) (M : Nat) : Prop where
  b : (bmax rs ms).toNat ≤ M
  e : ∀ m, endF ms = some m → m.v.toNat ≤ M
  v : ∀ m ∈ ms, m.v ≤ 1000
  m : M ≤ 5000
  m1 : 1 ≤ M
def spUp (j : Nat) : Sp := fun vs H Q _ => ∃ (r d s : Addr) (rs : List SR) (ms : List MR) (N M G : Nat), vs = [.ref r, .int (N : Nat), .ref d, .ref s] ∧ RowsAt H r rs ms ∧ GoodSys rs ms ∧ KnownC H d rs ms G ∧ H s = some (.lst (sumV (WN rs ms []) M)) ∧ Far rs ms M ∧ N + 1 < 2 ^ j ∧ j ≤ 100 ∧ G + (if N ≤ M then 0 else 100 * j) ≤ 800000 ∧
  ∀ H', SameBut d H H' → KnownC H' d rs ms (if N ≤ M then G else G + 100 * j) → Q (.int (sA (WN rs ms []) N : Nat)) H'
theorem c_lup (Z : Zs mg) (c_endless : Cal P w K mg base 1 "_law_endless" spEnd []) (c_count : Cal P w K mg base 101 "_law_count" (spCountG 100) []) {f : Addr} {fd : FuncData} (F : Def K mg "_law_up_to" sLup f fd) (b : Binds K fd ["rows", "number", "known", "sums"] []) : ∀ j, Cal P w K mg base (j + 102) "_law_up_to" (spUp j) []
  | 0 => by
    refine cal0 F b .nil scLup (fun vs H Q E h => ?_) (fun cdv A outer s H vs Q E hr h => ?_)
    · obtain ⟨r, d, s, rs, ms, N, M, G, rfl, _⟩ := h
      rfl
    · obtain ⟨r, d, s, rs, ms, N, M, G, rfl, _, _, _, _, _, hN, _⟩ := h
      omega
  | j + 1 => by
    have c_up_to := c_lup Z c_endless c_count F b j
    refine cal0 F b .nil scLup (fun vs H Q E h => ?_) (fun cdv A outer s H vs Q E hr h => ?_)
    · obtain ⟨r, d, s, rs, ms, N, M, G, rfl, _⟩ := h
      rfl
    · obtain ⟨r, d, sl, rs, ms, N, M, G, rfl, hR, hg, hK, hs, hF, hN, j9, g9, k⟩ := h
      refine ⟨_, pss_cons (ps_if (pt_cmpR op_lt (pv 1) (pe_callB (kLen K) (by rfl) Z.len PySem.boot_len (pa_cons (pv 3) pa_nil)) (nomark _))
        (pss_one (ps_ret (pe_ix (kIxL K) (pv 3) (pv 1) (fun _ _ => rfl))))
        (pss_nil))
      (pss_cons (ps_set (i := 4) scLup.nd rfl (Or.inl rfl) (pe_c c_endless hr (by omega) (by rfl) (pa_cons (pv 0) pa_nil)))
      (pss_cons (ps_if (pt_cmpR oIs (pv 4) pe_non (nomark _))
        (pss_one (ps_ret (pe_ix (kIxL K) (pv 3) (pe_un un_neg pe_int) (fun _ _ => rfl))))
        (pss_nil))
      (pss_cons (ps_set (i := 5) scLup.nd rfl (Or.inr rfl) (pe_ix (kIxT K) (pv 4) pe_int (fun _ _ => rfl)))
      (pss_cons (ps_set (i := 6) scLup.nd rfl (Or.inl rfl) (pe_op op_cat (pe_lst (pa_cons pe_int pa_nil)) (pe_lc (own := [("k", 11)]) (g := gName 11) rfl scLup.nd (pi_range2 (by rfl) Z.range (pa_cons pe_int (pa_cons (pe_op op_add (pe_callB kMin2 (by rfl) Z.min (by decide +kernel) (pa_cons (pe_ix (kIxT K) (pv 4) pe_int (fun _ _ => rfl)) (pa_cons (pe_op op_sub (pe_callB (kLen K) (by rfl) Z.len PySem.boot_len (pa_cons (pv 3) pa_nil)) pe_int) pa_nil))) pe_int) pa_nil))) (blkOk_by (own := [("k", 11)]) (N := ["rows", "number", "known", "sums", "row", "value", "rests", "first", "found", "one", "last", "k", "rest"]) (sc := fnScope sLup) (by decide +kernel)) (fun _ _ _ _ _ => (pg_name (i := 11) scLup.nd rfl (Or.inl rfl))) (fun _ _ _ _ _ => pts_one (pt_cmpR op_gt (pe_ix (kIxL K) (pv 3) (pv 11) (fun _ _ => rfl)) (pe_ix (kIxL K) (pv 3) (pe_op op_sub (pv 11) pe_int) (fun _ _ => rfl)) (nomark _))) (fun _ _ _ _ _ => pv 11))))
      (pss_cons (ps_set (i := 7) scLup.nd rfl (Or.inl rfl) (pe_op op_add (pe_op op_fdivN (pe_callB (kLen K) (by rfl) Z.len PySem.boot_len (pa_cons (pv 3) pa_nil)) (pv 5)) pe_int))
      (pss_cons (ps_set (i := 8) scLup.nd rfl (Or.inl rfl) (pe_ix (kIxL K) (pv 3) (pe_un un_neg pe_int) (fun _ _ => rfl)))
      (pss_cons (ps_for PassesOwn.never rfl (pi_range2 (by rfl) Z.range (pa_cons (pe_callB (kLen K) (by rfl) Z.len PySem.boot_len (pa_cons (pv 3) pa_nil)) (pa_cons (pe_callB kMin2 (by rfl) Z.min (by decide +kernel) (pa_cons (pe_op op_add (pv 1) pe_int) (pa_cons (pe_op op_mulW (pv 7) (pv 5)) pa_nil))) pa_nil))) (pg_name (i := 9) scLup.nd rfl (Or.inl rfl))
        (pss_one (ps_set (i := 8) scLup.nd rfl (Or.inl rfl) (pe_op op_add (pv 8) (pe_callTy cIntB (by rfl) Z.int (by decide +kernel) (pa_cons (pe_cmpR op_gt (pe_c c_count hr (by omega) (by rfl) (pa_cons (pv 0) (pa_cons (pv 9) (pa_cons (pv 2) pa_nil)))) pe_int (nomark _)) pa_nil))))))
      (pss_cons (ps_set (i := 10) scLup.nd rfl (Or.inr rfl) (pe_op op_fdivN (pv 1) (pv 5)))
      (pss_cons (ps_if (pt_cmpR op_ge (pv 10) (pv 7) (nomark _))
        (pss_cons (ps_set (i := 8) scLup.nd rfl (Or.inl rfl) (pe_op op_add (pv 8) (pe_op op_mulW (pe_callB (kLen K) (by rfl) Z.len PySem.boot_len (pa_cons (pv 6) pa_nil)) (pe_op op_sub (pe_c c_up_to hr (by omega) (by rfl) (pa_cons (pv 0) (pa_cons (pe_op op_sub (pv 10) pe_int) (pa_cons (pv 2) (pa_cons (pv 3) pa_nil))))) (pe_c c_up_to hr (by omega) (by rfl) (pa_cons (pv 0) (pa_cons (pe_op op_sub (pv 7) pe_int) (pa_cons (pv 2) (pa_cons (pv 3) pa_nil)))))))))
      (pss_one (ps_if (pt_cmpR op_gt (pe_c c_count hr (by omega) (by rfl) (pa_cons (pv 0) (pa_cons (pv 10) (pa_cons (pv 2) pa_nil)))) pe_int (nomark _))
        (pss_one (ps_set (i := 8) scLup.nd rfl (Or.inl rfl) (pe_op op_add (pv 8) (pe_callB (kLen K) (by rfl) Z.len PySem.boot_len (pa_cons (pe_lc (own := [("rest", 12)]) (g := gName 12) rfl scLup.nd (kiL K (pv 6)) (blkOk_by (own := [("rest", 12)]) (N := ["rows", "number", "known", "sums", "row", "value", "rests", "first", "found", "one", "last", "k", "rest"]) (sc := fnScope sLup) (by decide +kernel)) (fun _ _ _ _ _ => (pg_name (i := 12) scLup.nd rfl (Or.inl rfl))) (fun _ _ _ _ _ => pts_one (pt_cmpR op_le (pv 12) (pe_op op_sub (pv 1) (pe_op op_mulW (pv 10) (pv 5))) (nomark _))) (fun _ _ _ _ _ => pv 12)) pa_nil)))))
        (pss_nil))))
        (pss_nil))
      (pss_one (ps_ret (pv 8)))))))))))), ?_⟩
      have hvv : ∀ m ∈ ms, 2 ≤ m.v := fun m hm => (hg.m m hm).lo
      obtain ⟨F1, F2, F3, F4, F5⟩ := hF
      walk_at "go"
      rw [sumV_len]
      refine it (fun h5 => ?_) (fun h5 => ?_)
      · walk_at "rd"
        refine R.ixL hs (atI_nat (sumV_at (by omega))) ?_
        exact k H SameBut.refl (hK.mono (by split <;> omega))
      · walk_at "rd"
        refine ⟨r, rs, ms, rfl, hR, fun m a he ha => ?_, fun he => ?_⟩
        · walk_at "rd"
          refine itN (fun z => nomatch z) ?_
          walk_at "rd"
          have hmm := List.mem_of_find?_eq_some he
          have gm := hg.m m hmm
          have lo := gm.lo
          have r0 := gm.r0
          have r1 := gm.r1
          have hv9 := F3 m hmm
          have hVM := F2 m he
          obtain ⟨Vn, hV⟩ : ∃ Vn : Nat, m.v = (Vn : Int) := ⟨m.v.toNat, by omega⟩
          obtain ⟨Rn, hRr⟩ : ∃ Rn : Nat, m.r = (Rn : Int) := ⟨m.r.toNat, by omega⟩
          have law := fun first last ρ => up_law hg [] he (first := first) (last := last) (ρ := ρ)
          rw [hV, hRr, Int.toNat_natCast, Int.toNat_natCast] at law
          rw [hV] at lo hv9 hVM ⊢
          rw [hV, hRr] at r1
          rw [Int.toNat_natCast] at hVM
          refine ⟨by decide, fun z hz => R.gen hz fun H1 s1 h1 => ?_⟩
          have hs1 := s1 _ _ hs
          walk_at "rd"
          have ha1 := s1 _ _ ha
          unfold mrV at ha1
          rw [hRr] at ha1
          intro D hD
          have emn : ((if ((sumV (WN rs ms []) M).length : Int) - 1 < m.r then ((sumV (WN rs ms []) M).length : Int) - 1 else m.r) + 1 - 1).toNat = Rn := by rw [sumV_len, hRr]; split <;> omega
          walk_at "rd"
          rw [emn]
          refine lc_range (lo := 1) (n := Rn) (fun i H' => Same H1 H' ∧ ∃ acc, H' D = some (.lst acc) ∧ (V.int 0 :: acc) = (restL (WN rs ms []) i).map fun k : Nat => V.int (k : Nat)) ⟨same_new (Same.refl _) hD, [], upd_same, rfl⟩ ?_ ?_
          · rintro i H2 hi ⟨s2, acc, h2, hacc⟩
            have hs2 := s2 _ _ hs1
            refine R.gname ⟨rfl, ?_⟩
            walk_at "rd"
            have en : (1 : Int) + ((i : Nat) : Int) = ((i + 1 : Nat) : Int) := by omega
            rw [en]
            refine R.ixL hs2 (atI_nat (sumV_at (k := i + 1) (by omega))) ?_
            walk_at "rd"
            rw [show ((i + 1 : Nat) : Int) - 1 = ((i : Nat) : Int) by omega]
            refine R.ixL hs2 (atI_nat (sumV_at (k := i) (by omega))) ?_
            walk_at "rd"
            have es : sA (WN rs ms []) (i + 1) = sA (WN rs ms []) i + (if (WN rs ms [] (i + 1)).isSome = true then 1 else 0) := rfl
            have al : acc.length ≤ 5000 := by
              have := congrArg List.length hacc
              rw [List.length_cons, List.length_map, restL_len] at this
              have := sA_le (WN rs ms []) i
              omega
            refine it (fun h6 => ?_) (fun h6 => ?_)
            · walk_at "rd"
              refine ⟨acc, h2, small1000' (by omega), same_put s2 hD, acc ++ [_], upd_same, ?_⟩
              rw [restL_snoc, if_pos (by by_cases q : (WN rs ms [] (i + 1)).isSome = true
                                         · exact q
                                         · rw [if_neg q] at es; omega), List.map_append, ← hacc]
              rfl
            · refine ⟨s2, acc, h2, ?_⟩
              rw [restL_snoc, if_neg (by intro q; rw [if_pos q] at es; omega), List.append_nil]
              exact hacc
          · rintro H2 ⟨s2, acc, h2, hacc⟩
            have hs2 := s2 _ _ hs1
            walk_at "rd"
            have al : acc.length ≤ 5000 := by
              have := congrArg List.length hacc
              rw [List.length_cons, List.length_map, restL_len] at this
              have := sA_le (WN rs ms []) Rn
              omega
            refine R.catL (s2 _ _ h1) h2 (by show [V.int 0].length + acc.length ≤ 16777216; rw [List.length_cons]; show 0 + 1 + _ ≤ _; omega) fun L hL => R.gen hL fun H3 s3 h3 => ?_
            rw [show [V.int 0] ++ acc = V.int 0 :: acc from rfl, hacc] at h3
            have hs3 := s3 _ _ hs2
            have s03 := (s1.trans s2).trans s3
            walk_at "rd"
            rw [sumV_len]
            refine R.ixL hs3 (sumV_last _ _) ?_
            obtain ⟨fi, hfi⟩ : ∃ fi : Nat, fi = (M + 1) / Vn + 1 := ⟨_, rfl⟩
            have Vp : 0 < Vn := by omega
            have ffd : ((M + 1 : Nat) : Int).fdiv ((Vn : Nat) : Int) + 1 = ((fi : Nat) : Int) := by rw [Int.fdiv_eq_ediv_of_nonneg _ (by omega), hfi]; push_cast; rfl
            have f2 : 2 ≤ fi := by
              have : 1 ≤ (M + 1) / Vn := (Nat.le_div_iff_mul_le Vp).mpr (by omega)
              omega
            have dm1 := Nat.div_add_mod (M + 1) Vn
            have dm2 := Nat.mod_lt (M + 1) Vp
            have fV : fi * Vn = Vn * ((M + 1) / Vn) + Vn := by rw [hfi, Nat.succ_mul, Nat.mul_comm]
            have fV1 : M + 2 ≤ fi * Vn := by omega
            have fV2 : fi * Vn ≤ M + 1 + Vn := by omega
            have fM : fi ≤ M := by
              have : 2 * fi ≤ fi * Vn := by rw [Nat.mul_comm]; exact Nat.mul_le_mul_left _ (by omega)
              omega
            rw [ffd]
            walk_at "rd"
            rw [sumV_len]
            refine R.ic (wide_mul (a := 20) (b := 20) (by show _ < 1048576; omega) (by show _ < 1048576; omega) (by decide) (by decide) (by decide)) ?_
            walk_at "rd"
            have hdd := hK
            obtain ⟨kvd, hd0, _⟩ := id hK
            have sd : sl ≠ d := ne_of hs hd0 (by intro z; cases z)
            have Ld : L ≠ d := fun z => by subst z; have := s2 _ _ (s1 _ _ hd0); rw [hL] at this; cases this
            have K3 := hK.same s03
            have hR3 := hR.same s03
            have ct : ∀ n : Nat, 1 ≤ n → WN rs ms [] n = WN rs ms [] n → (if (WN rs ms [] n).isSome = true then (1 : Int) else 0) = if decide (cnt rs ms (n : Int) > 0) = true then (1 : Int) else 0 := fun n n1 _ => by rw [WN_some hvv [] n1]
            have pJ : N + 1 < 2 ^ 100 := Nat.lt_of_lt_of_le hN (Nat.pow_le_pow_right (by decide) j9)
            have pJi : ∀ n : Nat, n ≤ N → ((n : Nat) : Int) < 2 ^ 100 := fun n h => by
              have : ((2 ^ 100 : Nat) : Int) = (2 : Int) ^ 100 := by rw [Int.natCast_pow]; rfl
              omega
            obtain ⟨T, hT⟩ : ∃ T : Nat, T = ((if ((fi : Nat) : Int) * ((Vn : Nat) : Int) < ((N : Nat) : Int) + 1 then ((fi : Nat) : Int) * ((Vn : Nat) : Int) else ((N : Nat) : Int) + 1) - ((M + 1 : Nat) : Int)).toNat := ⟨_, rfl⟩
            have fVc : ((fi : Nat) : Int) * ((Vn : Nat) : Int) = ((fi * Vn : Nat) : Int) := by push_cast; rfl
            rw [fVc] at hT ⊢
            have hT1 : fi * Vn < N + 1 → M + T = fi * Vn - 1 := fun z => by rw [hT, if_pos (by omega)]; omega
            have hT2 : ¬ fi * Vn < N + 1 → M + T = N := fun z => by rw [hT, if_neg (by omega)]; omega
            have hT3 : T ≤ Vn := by
              by_cases z : fi * Vn < N + 1
              · have := hT1 z; omega
              · have := hT2 z; omega
            have hT4 : M + T ≤ N := by
              by_cases z : fi * Vn < N + 1
              · have := hT1 z; omega
              · have := hT2 z; omega
            rw [← hT]
            refine for_it walk_range (fun i σ' H' => ∃ q9, σ' = [some (.ref r), some (.int (N : Nat)), some (.ref d), some (.ref sl), some (.ref a), some (.int (Vn : Nat)), some (.ref L), some (.int (fi : Nat)), some (.int (sA (WN rs ms []) (M + i) : Nat)), q9, none, none, none] ∧ SameBut d H3 H' ∧ KnownC H' d rs ms G) ⟨_, rfl, SameBut.refl, K3⟩ (fun _ _ _ _ _ => trivial) ?_ ?_
            · rintro i u σ' H4 H4' hi ⟨q9, rfl, e4, K4⟩ ⟨rfl, rfl⟩
              refine R.gname ?_
              walk_at "rd"
              have en : ((M + 1 : Nat) : Int) + ((i : Nat) : Int) = ((M + i + 1 : Nat) : Int) := by omega
              rw [en]
              refine ⟨r, d, rs, ms, _, G, rfl, hR3.known K3 e4, hg, K4, by omega, pJi _ (by omega), by decide, by rw [if_pos (by omega)]; omega, by omega, fun m hm => by have := F3 m hm; omega, fun H5 e5 K5 => ?_⟩
              rw [if_pos (by omega)] at K5
              walk_at "rd"
              have es : ((sA (WN rs ms []) (M + i) : Nat) : Int) + (if decide (0 < cnt rs ms ((M + i + 1 : Nat) : Int)) = true then 1 else 0) = ((sA (WN rs ms []) (M + (i + 1)) : Nat) : Int) := by
                show _ = ((sA (WN rs ms []) (M + i) + (if (WN rs ms [] (M + i + 1)).isSome = true then 1 else 0) : Nat) : Int)
                rw [WN_some hvv [] (by omega), show ∀ (x : Nat) (b : Bool), ((x + (if b = true then 1 else 0) : Nat) : Int) = ((x : Nat) : Int) + (if b = true then 1 else 0) from fun x b => by cases b <;> rfl]
              rw [es]
              exact ⟨_, rfl, e4.trans e5, K5⟩
            · rintro σ' H4 ⟨q9, rfl, e4, K4⟩
              have hs4 := e4 _ _ sd hs3
              have h4 := e4 _ _ Ld h3
              have hR4 := hR3.known K3 e4
              walk_at "rd"
              obtain ⟨la, hla⟩ : ∃ la : Nat, la = N / Vn := ⟨_, rfl⟩
              have lfd : ((N : Nat) : Int).fdiv ((Vn : Nat) : Int) = ((la : Nat) : Int) := by rw [Int.fdiv_eq_ediv_of_nonneg _ (by omega), hla]; push_cast; rfl
              have dn := Nat.div_add_mod N Vn
              rw [← hla] at dn
              have dn2 := Nat.mod_lt N Vp
              rw [lfd]
              refine it (fun h7 => ?_) (fun h7 => ?_)
              · have fla : fi ≤ la := by omega
                have fla2 : fi * Vn ≤ Vn * la := by rw [Nat.mul_comm fi]; exact Nat.mul_le_mul_left _ fla
                have la2 : 2 * la ≤ Vn * la := Nat.mul_le_mul_right _ (by omega)
                have eT := hT1 (by omega)
                have p2 : (2 : Nat) ^ (j + 1) = 2 ^ j * 2 := Nat.pow_succ _ _
                have nM : ¬ N ≤ M := by omega
                rw [if_neg nM] at g9 k
                walk_at "rd"
                rw [List.length_map, restL_len]
                rw [show ((la : Nat) : Int) - 1 = ((la - 1 : Nat) : Int) by omega]
                refine ⟨r, d, sl, rs, ms, la - 1, M, G, rfl, hR4, hg, K4, hs4, ⟨F1, F2, F3, F4, F5⟩, by omega, by omega, by split <;> omega, fun H5 e5 K5 => ?_⟩
                have hs5 := e5 _ _ sd hs4
                have h5L := e5 _ _ Ld h4
                have hR5 := hR4.known K4 e5
                have K5' := K5.mono (show (if la - 1 ≤ M then G else G + 100 * j) ≤ G + 100 * j by split <;> omega)
                walk_at "rd"
                rw [show ((fi : Nat) : Int) - 1 = ((fi - 1 : Nat) : Int) by omega]
                refine ⟨r, d, sl, rs, ms, fi - 1, M, G + 100 * j, rfl, hR5, hg, K5', hs5, ⟨F1, F2, F3, F4, F5⟩, by omega, by omega, by rw [if_pos (by omega)]; omega, fun H6 e6 K6 => ?_⟩
                rw [if_pos (by omega)] at K6
                have hs6 := e6 _ _ sd hs5
                have h6L := e6 _ _ Ld h5L
                have hR6 := hR5.known K5' e6
                have w1 : ((1 + sA (WN rs ms []) Rn : Nat) : Int).natAbs < 2 ^ 20 := by
                  have := sA_le (WN rs ms []) Rn
                  show _ < 1048576
                  omega
                have w2 : (((sA (WN rs ms []) (la - 1) : Nat) : Int) - ((sA (WN rs ms []) (fi - 1) : Nat) : Int)).natAbs < 2 ^ 100 := by
                  have a := sA_le (WN rs ms []) (la - 1)
                  have b := sA_le (WN rs ms []) (fi - 1)
                  generalize (2 : Nat) ^ 100 = y at *
                  omega
                walk_at "rd"
                refine R.ic (wide_mul w1 w2 (by decide) (by decide) (by decide)) ?_
                walk_at "rd"
                refine ⟨r, d, rs, ms, _, G + 100 * j, rfl, hR6, hg, K6, by omega, pJi _ (by omega), by decide, by split <;> omega, by omega, fun m hm => by have := F3 m hm; omega, fun H7 e7 K7 => ?_⟩
                have h7L := e7 _ _ Ld h6L
                have K7' := K7.mono (show (if ((la : Nat) : Int) ≤ 9000 then G + 100 * j else G + 100 * j + 100) ≤ G + 100 * (j + 1) by split <;> omega)
                have e07 : SameBut d H H7 := ((((SameBut.of s03).trans e4).trans e5).trans e6).trans e7
                have lw := law fi la (N % Vn) f2 (by omega) fla dn2
                have eN : la * Vn + N % Vn = N := by rw [Nat.mul_comm]; exact dn
                rw [eN, ← eT, WN_some hvv [] (show 1 ≤ la by omega)] at lw
                have hmul : ((1 + sA (WN rs ms []) Rn : Nat) : Int) * (((sA (WN rs ms []) (la - 1) : Nat) : Int) - ((sA (WN rs ms []) (fi - 1) : Nat) : Int)) = (((1 + sA (WN rs ms []) Rn) * sA (WN rs ms []) (la - 1) : Nat) : Int) - (((1 + sA (WN rs ms []) Rn) * sA (WN rs ms []) (fi - 1) : Nat) : Int) := by rw [Int.mul_sub]; push_cast; rfl
                rw [hmul]
                generalize (1 + sA (WN rs ms []) Rn) * sA (WN rs ms []) (la - 1) = A1 at *
                generalize (1 + sA (WN rs ms []) Rn) * sA (WN rs ms []) (fi - 1) = A2 at *
                walk_at "rd"
                refine it (fun h8 => ?_) (fun h8 => ?_)
                · rw [if_pos (decide_eq_true (show cnt rs ms (la : Int) > 0 by omega))] at lw
                  walk_at "rd"
                  intro D' hD'
                  have h7D : SqL K H7 L ((restL (WN rs ms []) Rn).map fun k : Nat => V.int (k : Nat)) := SqL.of h7L
                  have rl9 : (restL (WN rs ms []) Rn).length ≤ 5001 := by
                    have := sA_le (WN rs ms []) Rn
                    rw [restL_len]
                    omega
                  refine lc_it (walk_list (K := K) (a := L) (xs := (restL (WN rs ms []) Rn).map fun k : Nat => V.int (k : Nat))) (fun i H' => Same H7 H' ∧ ∃ acc, H' D' = some (.lst acc) ∧ acc.length = (((restL (WN rs ms []) Rn).take i).filter fun k => decide (k ≤ N % Vn)).length) ⟨same_new (Same.refl _) hD', [], upd_same, rfl⟩ (fun i H' _ hh => SqL.of (hh.1 _ _ h7L)) ?_ ?_
                  · rintro i u H8 H8' hi ⟨s8, acc8, h8', hal⟩ ⟨rfl, hu⟩
                    rw [List.length_map] at hi
                    have hri : (restL (WN rs ms []) Rn)[i]? = some (restL (WN rs ms []) Rn)[i] := List.getElem?_eq_getElem hi
                    rw [List.getElem?_map, hri] at hu
                    cases hu
                    have et : (restL (WN rs ms []) Rn).take (i + 1) = (restL (WN rs ms []) Rn).take i ++ [(restL (WN rs ms []) Rn)[i]] := by rw [List.take_add_one, hri]; rfl
                    have al8 : acc8.length ≤ 5001 := by
                      have a := List.length_filter_le (fun k => decide (k ≤ N % Vn)) ((restL (WN rs ms []) Rn).take i)
                      rw [List.length_take] at a
                      omega
                    rw [et, List.filter_append, List.length_append, ← hal]
                    generalize (restL (WN rs ms []) Rn)[i] = q at *
                    refine R.gname ⟨rfl, ?_⟩
                    walk_at "rd"
                    refine R.ic (wide_mul (a := 100) (b := 20) (two_pow (Nat.lt_of_le_of_lt (show la ≤ N + 1 by omega) pJ)) (by show _ < 1048576; omega) (by decide) (by decide) (by decide)) ?_
                    walk_at "rd"
                    have er : ((N : Nat) : Int) - ((la : Nat) : Int) * ((Vn : Nat) : Int) = ((N % Vn : Nat) : Int) := by
                      have : ((la : Nat) : Int) * ((Vn : Nat) : Int) = ((la * Vn : Nat) : Int) := by push_cast; rfl
                      rw [this]
                      omega
                    rw [er]
                    refine it (fun h9 => ?_) (fun h9 => ?_)
                    · walk_at "rd"
                      refine ⟨acc8, h8', small1000' (by omega), same_put s8 hD', acc8 ++ [_], upd_same, ?_⟩
                      rw [List.filter_cons_of_pos (by exact decide_eq_true (by omega)), List.length_append]
                      rfl
                    · refine ⟨s8, acc8, h8', ?_⟩
                      rw [List.filter_cons_of_neg (by rw [decide_eq_true_eq]; omega)]
                      rfl
                  · rintro H8 ⟨s8, acc8, h8', hal⟩
                    rw [List.length_map, List.take_of_length_le (Nat.le_refl _), restL_filter] at hal
                    walk_at "rd"
                    rw [hal]
                    rw [show ((sA (WN rs ms []) (M + T) : Nat) : Int) + (((A1 : Nat) : Int) - ((A2 : Nat) : Int)) + ((1 + sA (WN rs ms []) (min (N % Vn) Rn) : Nat) : Int) = ((sA (WN rs ms []) N : Nat) : Int) by omega]
                    exact k H8 (e07.trans (SameBut.of s8)) (K7'.same s8)
                · rw [if_neg (by rw [decide_eq_true_eq]; omega)] at lw
                  walk_at "rd"
                  rw [show ((sA (WN rs ms []) (M + T) : Nat) : Int) + (((A1 : Nat) : Int) - ((A2 : Nat) : Int)) = ((sA (WN rs ms []) N : Nat) : Int) by omega]
                  exact k H7 e07 K7'
              · have z : ¬ fi * Vn < N + 1 := by
                  intro z
                  have : fi ≤ N / Vn := (Nat.le_div_iff_mul_le Vp).mpr (by omega)
                  omega
                walk_at "rd"
                rw [hT2 z]
                exact k H4 ((SameBut.of s03).trans e4) (K4.mono (by split <;> omega))
        · walk_at "rd"
          refine itY rfl ?_
          walk_at "rd"
          refine R.ixL hs (sumV_last _ _) ?_
          have e := (s_none (f := WN rs ms []) (b := M) (n := N) (by omega) fun k a _ => WN_none [] hg he (by omega)).1
          rw [← e]
          exact k H SameBut.refl (hK.mono (by split <;> omega))
end
end KN
end
section
set_option Elab.async false
set_option linter.all false
set_option maxRecDepth 100000
set_option maxHeartbeats 4000000
set_option pp.maxSteps 1500
set_option pp.deepTerms false
local macro_rules | `(tactic| walk_at "ne") => `(tactic| first
  | assumption | (apply Ne.symm; assumption)
  | exact R.ne_new (by assumption) | exact (R.ne_new (by assumption)).symm
  | exact L2.ne_of_none (by assumption) (by assumption) | exact (L2.ne_of_none (by assumption) (by assumption)).symm
  | exact L2.ne_of_none (by assumption) (R.free_new (by assumption)) | exact (L2.ne_of_none (by assumption) (R.free_new (by assumption))).symm)
local macro_rules | `(tactic| walk_at "at") => `(tactic| first
  | assumption | exact L2.upd_same
  | (refine R.sb (H := ?H) (p := ?p) ?e ?n ?h; (case e => assumption); (case n => walk_at "ne"); (case h => walk_at "at"))
  | (refine R.sm (H := ?H) ?e ?h; (case e => assumption); (case h => walk_at "at"))
  | (refine Eq.trans (L2.upd_ne ?_) ?_ <;> first | walk_at "ne" | walk_at "at"))
local macro_rules | `(tactic| walk_at "sqt") => `(tactic| first | assumption | (refine L2.SqT.of ?_; walk_at "at"))
local macro_rules | `(tactic| walk_at "ty") => `(tactic| first | exact R.tyN | exact R.tyB | exact R.tyI | exact R.tyS | (refine R.tyT (xs := ?xs) ?h; case h => walk_at "at") | (refine R.tyL (xs := ?xs) ?h; case h => walk_at "at"))
local macro_rules | `(tactic| walk_at "kit") => `(tactic| first | exact R.kit_NoneType_tuple | exact R.kit_NoneType_list | exact R.kit_NoneType_bool | exact R.kit_NoneType_str | exact R.kit_NoneType_int | exact R.kit_bool_tuple | exact R.kit_bool_list | exact R.kit_bool_bool | exact R.kit_bool_str | exact R.kit_bool_int | exact R.kit_int_tuple | exact R.kit_int_list | exact R.kit_int_bool | exact R.kit_int_str | exact R.kit_int_int | exact R.kit_str_tuple | exact R.kit_str_list | exact R.kit_str_bool | exact R.kit_str_str | exact R.kit_str_int | exact R.kit_tuple_tuple | exact R.kit_tuple_list | exact R.kit_tuple_bool | exact R.kit_tuple_str | exact R.kit_tuple_int | exact R.kit_list_tuple | exact R.kit_list_list | exact R.kit_list_bool | exact R.kit_list_str | exact R.kit_list_int)
local macro_rules | `(tactic| walk_at "sz") => `(tactic| first | assumption | (refine Nat.le_trans ?_ (show 1000 ≤ PySem.sizeLine by decide); omega) | decide)
local macro_rules | `(tactic| walk_at "szl") => `(tactic| first | assumption | exact Nat.le_of_lt (L2.small1000 (by omega)) | decide | decide +kernel)
local macro_rules | `(tactic| walk_at "sys") => `(tactic| first | assumption | exact KN.SysAt.same (by assumption) (by assumption))
local macro_rules | `(tactic| walk_at "dk") => `(tactic| first | exact R.rowsS _ _ | exact R.rowsM _ _)
local macro_rules | `(tactic| walk_at "sqa") => `(tactic| first | assumption | exact R.SeqA.same (by assumption) (by assumption) | exact R.SeqA.new (by assumption) (by assumption) | (exact Or.inl (by walk_at "at")) | (exact Or.inr (by walk_at "at")))
local macro_rules | `(tactic| walk_at "ix") => `(tactic| first | rfl | (exact L2.atI_nat (by assumption)) | assumption)
local macro_rules | `(tactic| walk_at "cond") => `(tactic| first
  | exact Or.inl (by decide) | exact Or.inr (by decide) | exact Or.inl ⟨by omega, by omega⟩ | exact Or.inr ⟨by omega, by omega⟩
  | (constructor <;> omega) | (show _ ≠ _; omega) | decide | omega)
local macro_rules | `(tactic| walk_at "r1") => `(tactic| first
  | with_reducible refine R.seq ?_ | with_reducible refine R.asg ?_ | with_reducible refine R.ifs ?_ | with_reducible refine R.ret ?_ | with_reducible refine R.retN ?_ | with_reducible refine R.drop ?_ | with_reducible refine R.next ?_
  | with_reducible refine R.op ?_ | ((with_reducible refine R.var (v := ?v) ?h ?q); case h => rfl) | with_reducible refine R.c ?_ | with_reducible refine R.tst ?_ | with_reducible refine R.tb_ ?_ | with_reducible refine R.ex ?_
  | with_reducible refine R.i0 ?_ | with_reducible refine R.eqI ?_ | with_reducible refine R.neI ?_ | ((with_reducible refine R.ic ?_ ?_); · walk_at "cond") | with_reducible refine R.u0 ?_ | with_reducible refine R.un ?_
  | ((with_reducible refine R.eq ?_ ?_); · rfl) | ((with_reducible refine R.ne ?_ ?_); · rfl)
  | with_reducible refine R.and_ ?_ | with_reducible refine R.or_ ?_ | with_reducible refine R.not_ ?_ | with_reducible refine R.ife ?_ | with_reducible refine R.chain ?_
  | with_reducible refine R.cons ?_ | with_reducible refine R.nil ?_ | with_reducible refine R.call ?_ | with_reducible refine R.cb ?_ | with_reducible refine R.bm ?_
  | with_reducible refine R.gname ?_ | with_reducible refine R.gsub ?_ | with_reducible refine R.gnil ?_ | with_reducible refine R.gcons ?_ | with_reducible refine R.yes ?_
  | with_reducible refine R.int1 ?_ | ((with_reducible refine R.lenL (xs := ?xs) ?h ?q); case h => walk_at "at")
  | ((with_reducible refine R.ixL (xs := ?xs) (v := ?v) ?h ?e ?q); (case h => walk_at "at"); (case e => walk_at "ix"))
  | ((with_reducible refine R.setL (xs := ?xs) (n := ?n) ?h ?e ?q); (case h => walk_at "at"); (case e => rfl))
  | ((with_reducible refine R.append (xs := ?xs) ?h ?e ?q); (case h => walk_at "at"); (case e => walk_at "cond"))
  | with_reducible refine R.is_ ?_ | with_reducible refine R.isnot ?_ | with_reducible refine R.andV ?_ | with_reducible refine R.orV ?_ | with_reducible refine R.notV ?_
  | ((with_reducible refine R.isi (s := ?s) (b := ?b) ?ty ?h ?q); (case ty => walk_at "ty"); (case h => walk_at "kit"))
  | ((with_reducible refine R.addS ?h ?q); (case h => walk_at "sz")) | with_reducible refine R.max2 ?_ | with_reducible refine R.min2 ?_
  | ((with_reducible refine R.lenStr ?h ?q); (case h => walk_at "szl")) | ((with_reducible refine R.ixS (n := ?n) ?h ?e ?q); (case h => walk_at "szl"); (case e => walk_at "ix"))
  | ((with_reducible refine R.tyl (xs := ?xs) ?h ?q); (case h => walk_at "at")) | with_reducible refine R.itlist ?_ | with_reducible refine R.ittup ?_ | with_reducible refine R.m1 ?_ | with_reducible refine R.m1s ?_ | with_reducible refine R.leS ?_ | with_reducible refine R.itstr ?_ | with_reducible refine R.itstrE ?_ | with_reducible refine R.lc ?_ | with_reducible refine R.lc2 ?_ | with_reducible refine R.ckw ?_ | with_reducible refine R.par ?_ | with_reducible refine R.parE ?_ | with_reducible refine R.itrev ?_ | with_reducible refine R.dsetd ?_ | with_reducible refine R.dnotin_ ?_ | with_reducible refine R.for_ ?_ | ((with_reducible refine R.all_ (bs := ?bs) ?h ?q); (case h => walk_at "at"))
  | with_reducible refine R.rng1 ?_ | ((with_reducible refine R.rngE ?h ?q); (case h => (constructor <;> omega)))
  | ((with_reducible refine R.lenT (xs := ?xs) ?h ?q); (case h => walk_at "sqt")) | ((with_reducible refine R.ixT (xs := ?xs) (v := ?v) ?h ?e ?q); (case h => walk_at "sqt"); (case e => walk_at "ix"))
  | ((refine R.itlE (xs := ?xs) ?h ?q); (case h => walk_at "at")) | ((refine R.ittE (xs := ?xs) ?h ?q); (case h => walk_at "at"))
  | ((refine R.gseq (xs := ?xs) ?h ?e ?q); (case h => walk_at "sqa"); (case e => rfl)) | ((refine R.ixA (xs := ?xs) (v := ?v) ?h ?e ?q); (case h => walk_at "sqa"); (case e => walk_at "ix")) | ((refine R.lenA (xs := ?xs) ?h ?q); (case h => walk_at "sqa"))
  | ((with_reducible refine R.gtup (xs := ?xs) ?h ?e ?q); (case h => walk_at "sqt"); (case e => rfl))
  | with_reducible refine R.din_ ?_ | with_reducible refine R.dput_ ?_
  | with_reducible refine R.dget2_ ?_ | ((with_reducible refine R.aug_ (x := ?x) ?h ?q); case h => rfl) | with_reducible refine R.ipI_ ?_
  | with_reducible refine R.rng2 ?_ | ((with_reducible refine R.rngE2 ?h ?q); (case h => (refine ⟨?_, ?_, ?_, ?_⟩ <;> omega)))
  | with_reducible refine R.brk ?_ | with_reducible refine R.intB ?_ | with_reducible refine R.meth_ ?_ | ((refine KN.methS (rs := ?rs) (ms := ?ms) ?h (fun _ _ _ _ => rfl) ?q); case h => walk_at "sys")
  | with_reducible refine R.sl_ ?_ | with_reducible refine R.np_ ?_ | with_reducible refine R.pt_ ?_ | with_reducible refine R.ptE ?_ | with_reducible refine R.dget_ ?_ | with_reducible refine R.revL_ ?_
  | ((refine R.dgetS (kvs := ?kvs) (v := ?v) ?h ?e ?q); (case h => walk_at "at"); (case e => walk_at "dk"))
  | with_reducible refine R.sfld ?_ | with_reducible refine R.fld_ ?_ | with_reducible refine R.dc ?_
  | with_reducible refine R.dget1_ ?_
  | with_reducible refine R.itseq ?_ | with_reducible refine R.itenum ?_
  | with_reducible refine R.itT ?_ | with_reducible refine R.itF ?_ | with_reducible refine R.itNT ?_ | with_reducible refine R.itNF ?_
  | (with_reducible refine R.tup ?_) | (with_reducible refine R.lst ?_))
local macro_rules | `(tactic| walk_at "rd") => `(tactic| (repeat (first | walk_at "r1" | (dsimp only [Int.reduceToNat, List.set_cons_succ, List.set_cons_zero, List.length_cons, List.length_nil, List.nil_append, List.cons_append, List.append_nil]))))
local macro_rules | `(tactic| walk_at "go") => `(tactic| (rw [R.start_eq]; dsimp only [R.startE, List.map_nil]; walk_at "rd"))
local macro_rules | `(tactic| walk_at "r1") => `(tactic| first | with_reducible refine R.callN ?_ | with_reducible refine R.tr_ ?_ | with_reducible refine R.rng3 ?_ | with_reducible refine R.bits ?_ | with_reducible refine R.dnewT ?_)
-- RTX
namespace R
open PySem L2 SX C8 PySem.Spec PyProof.Rows
theorem turn_long {P : Program} {w : World} {K : PySem.W.Frag} {tg : Expr} (it : Addr) (lo : Int) (n : Nat) : Turn P w K tg (Itr lo n) [it] it (fun i h => IsLongIter h it (lo + (i : Nat) * 1) ((n : Int) - (i : Nat)) 1) where
  mem := by simp
  obj := fun i h st b hb => by
    have e : b = it := by simpa using hb
    subst e
    exact ⟨_, st, fun v z => by
      have z' : Data.fields _ = Data.cell v := z
      cases z'⟩
  keep := fun i h h' st k => k it (by simp) _ st
  item := by
    intro X hP hw hK hc i pins s σ H E I hf st hg
    subst hP hw hK
    obtain ⟨f0, f1, f2, f3, f4, f5⟩ := hf it (by simp)
    have W := Walks.longrange (prog := X.prog) (w := X.w) (I.ok.hd hc) it lo 1 n
    refine W.item i s _ _ hg st fun v h' tk hv st' kk => ?_
    obtain ⟨t, rfl⟩ := hv
    have I1 : Inv X pins σ H { s with heap := h', toks := tk } := I.turned (fun b o hb e => kk b o (by simpa using hb) e) f0 f1 f3 f4 f5
    refine ⟨_, rfl, go_of (s := { s with heap := h', toks := tk }) (n := "longrange_iterator") st' rfl rfl (by decide) ⟨.int (lo + i), H, I1, ⟨t, ?_⟩, ⟨rfl, rfl⟩, st', fun b hb => (hf b hb).1⟩⟩
    rw [Int.mul_one]
  done := by
    intro X hP hw hK hc i pins s σ H E I hf st hg
    subst hP hw hK
    obtain ⟨f0, f1, f2, f3, f4, f5⟩ := hf it (by simp)
    exact wpAny_pyNext_long_end (I.ok.hd hc) st (by have : n ≤ i := hg; omega) fun h' eb => ⟨rfl, I.turned (t' := s.toks) (fun b o hb e => eb b o hb e) f0 f1 f3 f4 f5⟩
  self := fun _ _ _ _ _ st h => wpAny_pyIter_longiter st h
section
variable {X : Cx} {tg : Expr}
theorem range_itW {pins : List (Addr × Obj)} {σ : L2.St} {H : Hp} {s : Shared} {R : It → Hp → Prop} {E : Value → Shared → Prop} {lo hi : Int} {t u v : Tok} {tk : Nat} (I : Inv X pins σ H s)
    (q : R (Itr lo (hi - lo).toNat) H) : wpAny (model X.prog X.w) X.A (pyIter (.ref s.heap.objs.size)) (PIE X pins σ tg R) E { s with heap := s.heap.push { cls := .type "range", data := .fields #[.int lo t, .int hi u, .int 1 v] }, toks := tk } := by
  have I1 : Inv X pins σ H { s with heap := s.heap.push { cls := .type "range", data := .fields #[.int lo t, .int hi u, .int 1 v] }, toks := tk } := I.kept fun b o e => Heap.get?_push_of_some _ e
  have e1 : lo + ((0 : Nat) : Int) * 1 = lo := by simp
  have e2 : (((hi - lo).toNat : Nat) : Int) - ((0 : Nat) : Int) = Builtin.Range.rangeSize lo hi 1 := by rw [rangeSize_one]; split <;> omega
  cases hsm : Builtin.Range.small lo hi 1 with
  | true =>
    refine wpAny_pyIter_range (IsRange.new ..) hsm ?_
    refine ⟨(s.heap.push { cls := .type "range", data := .fields #[.int lo t, .int hi u, .int 1 v] }).objs.size, [(s.heap.push { cls := .type "range", data := .fields #[.int lo t, .int hi u, .int 1 v] }).objs.size], _, _, H, rfl,
      I1.kept (t' := tk) fun b o e => Heap.get?_push_of_some _ e, turn_range _ lo (hi - lo).toNat, ?_, fun b hb => ?_, q⟩
    · show IsRangeIter _ _ (lo + ((0 : Nat) : Int) * 1) ((((hi - lo).toNat : Nat) : Int) - ((0 : Nat) : Int)) 1
      rw [e1, e2]
      exact Heap.get?_push_size _ rfl
    · have e : b = (s.heap.push { cls := .type "range", data := .fields #[.int lo t, .int hi u, .int 1 v] }).objs.size := by simpa using hb
      subst e
      exact I1.fpOk (Nat.le_refl _) (I1.hok.fresh (Nat.le_refl _))
  | false =>
    refine wpAny_pyIter_longrange (IsRange.new ..) hsm ?_
    refine ⟨(s.heap.push { cls := .type "range", data := .fields #[.int lo t, .int hi u, .int 1 v] }).objs.size, [(s.heap.push { cls := .type "range", data := .fields #[.int lo t, .int hi u, .int 1 v] }).objs.size], _, _, H, rfl,
      I1.kept (t' := tk) fun b o e => Heap.get?_push_of_some _ e, turn_long _ lo (hi - lo).toNat, ?_, fun b hb => ?_, q⟩
    · show IsLongIter _ _ (lo + ((0 : Nat) : Int) * 1) ((((hi - lo).toNat : Nat) : Int) - ((0 : Nat) : Int)) 1
      rw [e1, e2]
      exact Heap.get?_push_size _ rfl
    · have e : b = (s.heap.push { cls := .type "range", data := .fields #[.int lo t, .int hi u, .int 1 v] }).objs.size := by simpa using hb
      subst e
      exact I1.fpOk (Nat.le_refl _) (I1.hok.fresh (Nat.le_refl _))
def iRngW (ta : TA) : TI := fun σ H R => ta σ H fun vs H1 => ∃ i j : Int, vs = [.int i, .int j] ∧ R (Itr i (j - i).toNat) H1
theorem pi_range2W {a b : Expr} {ta : TA} {p pos : Pos} (hg : Gl X "range") (hm : X.mg "range" = none) (ha : PA X [a, b] ta) (hs : starEach [a, b] X.env = [(false, eval a X.env), (false, eval b X.env)] := by rfl) (hs2 : starEach [b] X.env = [(false, eval b X.env)] := by rfl) :
    PI X tg (.Call (.Name "range" p) [a, b] [] pos) (iRngW ta) := by
  refine ⟨fun pins s σ H R I h => ?_⟩
  refine Call_ (ld_blt I hg hm boot_range (PyProof.Rows.callWith_type1 (thn (ha.run pos pins s σ H _ I h) fun us s1 ⟨vs, H1, I1, r1, q1⟩ => ?_) (by rw [hs, hs2]) (by rw [hs2]; rfl)))
  obtain ⟨i, j, e, q⟩ := q1
  subst e
  cases r1 with
  | cons r rr =>
    cases rr with
    | cons r' rr =>
      cases rr
      obtain ⟨t, rfl⟩ := r
      obtain ⟨t', rfl⟩ := r'
      exact call_range_2 (range_itW I1 q)
end
theorem rngW {σ : L2.St} {H : Hp} {ar : TA} {R : It → Hp → Prop} (q : ar σ H fun vs H1 => ∃ i j : Int, vs = [.int i, .int j] ∧ R (Itr i (j - i).toNat) H1) : iRngW ar σ H R := q
theorem rngWE {i j : Int} {B : Int → Int → Prop} (q : B i j) : ∃ i' j' : Int, [V.int i, .int j] = [.int i', .int j'] ∧ B i' j' := ⟨i, j, rfl, q⟩
end R
end
section
set_option Elab.async false
set_option linter.all false
set_option maxRecDepth 100000
set_option maxHeartbeats 4000000
set_option pp.maxSteps 1500
set_option pp.deepTerms false
local macro_rules | `(tactic| walk_at "ne") => `(tactic| first
  | assumption | (apply Ne.symm; assumption)
  | exact R.ne_new (by assumption) | exact (R.ne_new (by assumption)).symm
  | exact L2.ne_of_none (by assumption) (by assumption) | exact (L2.ne_of_none (by assumption) (by assumption)).symm
  | exact L2.ne_of_none (by assumption) (R.free_new (by assumption)) | exact (L2.ne_of_none (by assumption) (R.free_new (by assumption))).symm)
local macro_rules | `(tactic| walk_at "at") => `(tactic| first
  | assumption | exact L2.upd_same
  | (refine R.sb (H := ?H) (p := ?p) ?e ?n ?h; (case e => assumption); (case n => walk_at "ne"); (case h => walk_at "at"))
  | (refine R.sm (H := ?H) ?e ?h; (case e => assumption); (case h => walk_at "at"))
  | (refine Eq.trans (L2.upd_ne ?_) ?_ <;> first | walk_at "ne" | walk_at "at"))
local macro_rules | `(tactic| walk_at "sqt") => `(tactic| first | assumption | (refine L2.SqT.of ?_; walk_at "at"))
local macro_rules | `(tactic| walk_at "ty") => `(tactic| first | exact R.tyN | exact R.tyB | exact R.tyI | exact R.tyS | (refine R.tyT (xs := ?xs) ?h; case h => walk_at "at") | (refine R.tyL (xs := ?xs) ?h; case h => walk_at "at"))
local macro_rules | `(tactic| walk_at "kit") => `(tactic| first | exact R.kit_NoneType_tuple | exact R.kit_NoneType_list | exact R.kit_NoneType_bool | exact R.kit_NoneType_str | exact R.kit_NoneType_int | exact R.kit_bool_tuple | exact R.kit_bool_list | exact R.kit_bool_bool | exact R.kit_bool_str | exact R.kit_bool_int | exact R.kit_int_tuple | exact R.kit_int_list | exact R.kit_int_bool | exact R.kit_int_str | exact R.kit_int_int | exact R.kit_str_tuple | exact R.kit_str_list | exact R.kit_str_bool | exact R.kit_str_str | exact R.kit_str_int | exact R.kit_tuple_tuple | exact R.kit_tuple_list | exact R.kit_tuple_bool | exact R.kit_tuple_str | exact R.kit_tuple_int | exact R.kit_list_tuple | exact R.kit_list_list | exact R.kit_list_bool | exact R.kit_list_str | exact R.kit_list_int)
local macro_rules | `(tactic| walk_at "sz") => `(tactic| first | assumption | (refine Nat.le_trans ?_ (show 1000 ≤ PySem.sizeLine by decide); omega) | decide)
local macro_rules | `(tactic| walk_at "szl") => `(tactic| first | assumption | exact Nat.le_of_lt (L2.small1000 (by omega)) | decide | decide +kernel)
local macro_rules | `(tactic| walk_at "sys") => `(tactic| first | assumption | exact KN.SysAt.same (by assumption) (by assumption))
local macro_rules | `(tactic| walk_at "dk") => `(tactic| first | exact R.rowsS _ _ | exact R.rowsM _ _)
local macro_rules | `(tactic| walk_at "sqa") => `(tactic| first | assumption | exact R.SeqA.same (by assumption) (by assumption) | exact R.SeqA.new (by assumption) (by assumption) | (exact Or.inl (by walk_at "at")) | (exact Or.inr (by walk_at "at")))
local macro_rules | `(tactic| walk_at "ix") => `(tactic| first | rfl | (exact L2.atI_nat (by assumption)) | assumption)
local macro_rules | `(tactic| walk_at "cond") => `(tactic| first
  | exact Or.inl (by decide) | exact Or.inr (by decide) | exact Or.inl ⟨by omega, by omega⟩ | exact Or.inr ⟨by omega, by omega⟩
  | (constructor <;> omega) | (show _ ≠ _; omega) | decide | omega)
local macro_rules | `(tactic| walk_at "r1") => `(tactic| first
  | with_reducible refine R.seq ?_ | with_reducible refine R.asg ?_ | with_reducible refine R.ifs ?_ | with_reducible refine R.ret ?_ | with_reducible refine R.retN ?_ | with_reducible refine R.drop ?_ | with_reducible refine R.next ?_
  | with_reducible refine R.op ?_ | ((with_reducible refine R.var (v := ?v) ?h ?q); case h => rfl) | with_reducible refine R.c ?_ | with_reducible refine R.tst ?_ | with_reducible refine R.tb_ ?_ | with_reducible refine R.ex ?_
  | with_reducible refine R.i0 ?_ | with_reducible refine R.eqI ?_ | with_reducible refine R.neI ?_ | ((with_reducible refine R.ic ?_ ?_); · walk_at "cond") | with_reducible refine R.u0 ?_ | with_reducible refine R.un ?_
  | ((with_reducible refine R.eq ?_ ?_); · rfl) | ((with_reducible refine R.ne ?_ ?_); · rfl)
  | with_reducible refine R.and_ ?_ | with_reducible refine R.or_ ?_ | with_reducible refine R.not_ ?_ | with_reducible refine R.ife ?_ | with_reducible refine R.chain ?_
  | with_reducible refine R.cons ?_ | with_reducible refine R.nil ?_ | with_reducible refine R.call ?_ | with_reducible refine R.cb ?_ | with_reducible refine R.bm ?_
  | with_reducible refine R.gname ?_ | with_reducible refine R.gsub ?_ | with_reducible refine R.gnil ?_ | with_reducible refine R.gcons ?_ | with_reducible refine R.yes ?_
  | with_reducible refine R.int1 ?_ | ((with_reducible refine R.lenL (xs := ?xs) ?h ?q); case h => walk_at "at")
  | ((with_reducible refine R.ixL (xs := ?xs) (v := ?v) ?h ?e ?q); (case h => walk_at "at"); (case e => walk_at "ix"))
  | ((with_reducible refine R.setL (xs := ?xs) (n := ?n) ?h ?e ?q); (case h => walk_at "at"); (case e => rfl))
  | ((with_reducible refine R.append (xs := ?xs) ?h ?e ?q); (case h => walk_at "at"); (case e => walk_at "cond"))
  | with_reducible refine R.is_ ?_ | with_reducible refine R.isnot ?_ | with_reducible refine R.andV ?_ | with_reducible refine R.orV ?_ | with_reducible refine R.notV ?_
  | ((with_reducible refine R.isi (s := ?s) (b := ?b) ?ty ?h ?q); (case ty => walk_at "ty"); (case h => walk_at "kit"))
  | ((with_reducible refine R.addS ?h ?q); (case h => walk_at "sz")) | with_reducible refine R.max2 ?_ | with_reducible refine R.min2 ?_
  | ((with_reducible refine R.lenStr ?h ?q); (case h => walk_at "szl")) | ((with_reducible refine R.ixS (n := ?n) ?h ?e ?q); (case h => walk_at "szl"); (case e => walk_at "ix"))
  | ((with_reducible refine R.tyl (xs := ?xs) ?h ?q); (case h => walk_at "at")) | with_reducible refine R.itlist ?_ | with_reducible refine R.ittup ?_ | with_reducible refine R.m1 ?_ | with_reducible refine R.m1s ?_ | with_reducible refine R.leS ?_ | with_reducible refine R.itstr ?_ | with_reducible refine R.itstrE ?_ | with_reducible refine R.lc ?_ | with_reducible refine R.lc2 ?_ | with_reducible refine R.ckw ?_ | with_reducible refine R.par ?_ | with_reducible refine R.parE ?_ | with_reducible refine R.itrev ?_ | with_reducible refine R.dsetd ?_ | with_reducible refine R.dnotin_ ?_ | with_reducible refine R.for_ ?_ | ((with_reducible refine R.all_ (bs := ?bs) ?h ?q); (case h => walk_at "at"))
  | with_reducible refine R.rng1 ?_ | ((with_reducible refine R.rngE ?h ?q); (case h => (constructor <;> omega)))
  | ((with_reducible refine R.lenT (xs := ?xs) ?h ?q); (case h => walk_at "sqt")) | ((with_reducible refine R.ixT (xs := ?xs) (v := ?v) ?h ?e ?q); (case h => walk_at "sqt"); (case e => walk_at "ix"))
  | ((refine R.itlE (xs := ?xs) ?h ?q); (case h => walk_at "at")) | ((refine R.ittE (xs := ?xs) ?h ?q); (case h => walk_at "at"))
  | ((refine R.gseq (xs := ?xs) ?h ?e ?q); (case h => walk_at "sqa"); (case e => rfl)) | ((refine R.ixA (xs := ?xs) (v := ?v) ?h ?e ?q); (case h => walk_at "sqa"); (case e => walk_at "ix")) | ((refine R.lenA (xs := ?xs) ?h ?q); (case h => walk_at "sqa"))
  | ((with_reducible refine R.gtup (xs := ?xs) ?h ?e ?q); (case h => walk_at "sqt"); (case e => rfl))
  | with_reducible refine R.din_ ?_ | with_reducible refine R.dput_ ?_
  | with_reducible refine R.dget2_ ?_ | ((with_reducible refine R.aug_ (x := ?x) ?h ?q); case h => rfl) | with_reducible refine R.ipI_ ?_
  | with_reducible refine R.rng2 ?_ | ((with_reducible refine R.rngE2 ?h ?q); (case h => (refine ⟨?_, ?_, ?_, ?_⟩ <;> omega)))
  | with_reducible refine R.brk ?_ | with_reducible refine R.intB ?_ | with_reducible refine R.meth_ ?_ | ((refine KN.methS (rs := ?rs) (ms := ?ms) ?h (fun _ _ _ _ => rfl) ?q); case h => walk_at "sys")
  | with_reducible refine R.sl_ ?_ | with_reducible refine R.np_ ?_ | with_reducible refine R.pt_ ?_ | with_reducible refine R.ptE ?_ | with_reducible refine R.dget_ ?_ | with_reducible refine R.revL_ ?_
  | ((refine R.dgetS (kvs := ?kvs) (v := ?v) ?h ?e ?q); (case h => walk_at "at"); (case e => walk_at "dk"))
  | with_reducible refine R.sfld ?_ | with_reducible refine R.fld_ ?_ | with_reducible refine R.dc ?_
  | with_reducible refine R.dget1_ ?_
  | with_reducible refine R.itseq ?_ | with_reducible refine R.itenum ?_
  | with_reducible refine R.itT ?_ | with_reducible refine R.itF ?_ | with_reducible refine R.itNT ?_ | with_reducible refine R.itNF ?_
  | (with_reducible refine R.tup ?_) | (with_reducible refine R.lst ?_))
local macro_rules | `(tactic| walk_at "rd") => `(tactic| (repeat (first | walk_at "r1" | (dsimp only [Int.reduceToNat, List.set_cons_succ, List.set_cons_zero, List.length_cons, List.length_nil, List.nil_append, List.cons_append, List.append_nil]))))
local macro_rules | `(tactic| walk_at "go") => `(tactic| (rw [R.start_eq]; dsimp only [R.startE, List.map_nil]; walk_at "rd"))
local macro_rules | `(tactic| walk_at "r1") => `(tactic| first | with_reducible refine R.callN ?_ | with_reducible refine R.tr_ ?_ | with_reducible refine R.rng3 ?_ | with_reducible refine R.bits ?_ | with_reducible refine R.dnewT ?_)
-- RTX
namespace KN
open PySem L2 SX R
open C8 (Cal Def cal0 pe_c pe_gc fnScope fnBody pss_cut Met met0 pe_mt pe_mt0)
section
variable {P : Program} {w : World} {K : PySem.W.Frag} {mg : Str → Option Value} {base : Heap}
abbrev sSc : Stmt := top 6
theorem scSc : FnScope ["system", "start", "stop", "census"] ["system", "start", "stop"] (fnScope sSc) := ⟨rfl, rfl, rfl, by decide +kernel, rfl, by decide +kernel, by decide +kernel⟩
abbrev sLgr : Stmt := top 41
theorem scLgr : FnScope ["pool", "wide"] ["pool"] (fnScope sLgr) := ⟨rfl, rfl, rfl, by decide +kernel, rfl, by decide +kernel, by decide +kernel⟩
def spSc (S : Addr) : Sp := fun vs H Q _ => ∃ (x : Addr) (i j : Nat) (rs : List SR) (ms : List MR), vs = [.ref x, .int (i : Nat), .int (j : Nat)] ∧ SysAt S H x rs ms ∧ GoodSys rs ms ∧ 1 ≤ i ∧ i ≤ j + 1 ∧ j < 2 ^ 3000 ∧
  ∀ H', Same H H' → Q (.int ((sA (WN rs ms []) j : Nat) - (sA (WN rs ms []) (i - 1) : Nat))) H'
theorem c_sayable_count {S CN fC : Addr} {fdC : FuncData} (TN : CenK K CN) (gN : mg "Census" = some (.ref CN)) (MN : Mk K CN fC) (GN : FnOk P w K mg base (L2.CX P w) 3 fC fdC ["self", "system", "last", "counted"] (spCenI S CN)) (bN : Binds K fdC ["self", "system", "last", "counted"] [])
    (m_up_to : Met P w K mg base 5 CN "up_to" (spCU CN) []) {f : Addr} {fd : FuncData} (F : Def K mg "sayable_count" sSc f fd) (b : Binds K fd ["system", "start", "stop"] []) : Cal P w K mg base 6 "sayable_count" (spSc S) [] := by
  refine cal0 F b .nil scSc (fun vs H Q E h => ?_) (fun cdv A outer s H vs Q E hr h => ?_)
  · obtain ⟨x, i, j, rs, ms, rfl, _⟩ := h
    rfl
  · obtain ⟨x, i, j, rs, ms, rfl, hX, hg, i1, ij, j9, k⟩ := h
    refine ⟨_, pss_cons (ps_set (i := 3) scSc.nd rfl (Or.inl rfl) (pe_make MN GN (hr.mono (by omega)) rfl gN bN .nil passF (pa_cons (pv 0) (pa_cons (pv 2) (pa_cons (pe_tup pa_nil) pa_nil)))))
      (pss_one (ps_ret (pe_op op_sub (pe_ix (kIxT K) (pe_mt m_up_to hr (by omega) (pv 3) (pa_cons (pv 2) pa_nil)) pe_int (fun _ _ => rfl)) (pe_ix (kIxT K) (pe_mt m_up_to hr (by omega) (pv 3) (pa_cons (pe_op op_sub (pv 1) pe_int) pa_nil)) pe_int (fun _ _ => rfl))))), ?_⟩
    obtain ⟨b1, b0⟩ := bmax_le hg
    walk_at "go"
    unfold tMake
    walk_at "rd"
    refine ⟨by decide, fun ct hct => R.gen hct fun H0 s0 h0 => ?_⟩
    walk_at "rd"
    intro c dc hc0 hdc ndc
    have s1 : Same H0 (upd (upd H0 dc (.own c)) c (.ins CN dc [])) := same_put (same_put (Same.refl H0) hdc) hc0
    have hX0 := hX.same s0
    refine ⟨c, dc, x, ct, _, rs, ms, [], rfl, upd_same, hX0.same s1, hg, s1 _ _ h0, by decide, by omega, fun H1 e1 hC => ⟨rfl, ?_⟩⟩
    have s01 : Same H0 H1 := fun b o h => e1 _ _ (ne_of_none h hc0) (s1 _ _ h)
    rw [Int.toNat_natCast] at hC
    walk_at "rd"
    refine methC hC (fun _ _ _ _ _ => rfl) ?_
    walk_at "rd"
    refine ⟨c, j, rs, ms, [], _, rfl, hC, hg, by omega, j9, fun H2 p s2 hp => ?_⟩
    have hC2 := hC.same s2
    walk_at "rd"
    refine methC hC2 (fun _ _ _ _ _ => rfl) ?_
    walk_at "rd"
    rw [show ((i : Nat) : Int) - 1 = ((i - 1 : Nat) : Int) by omega]
    refine ⟨c, i - 1, rs, ms, [], _, rfl, hC2, hg, by omega, Nat.lt_of_le_of_lt (by omega) j9, fun H3 p3 s3 hp3 => ?_⟩
    walk_at "rd"
    exact k H3 (((s0.trans s01).trans s2).trans s3)
def spLgr : Sp := fun vs H Q _ => ∃ (p l : Addr), vs = [.ref p] ∧ PoolAt H p l ∧ ∀ H' n, SameBut p H H' → PoolAt H' p l → 1 ≤ n → n ≤ 1000000000000000000000000000000 → Q (.int n) H'
theorem c_lgreat (Z : Zs mg) (c_take : Cal P w K mg base 2 "_law_take" spTake []) {f : Addr} {fd : FuncData} (F : Def K mg "_law_great" sLgr f fd) (b : Binds K fd ["pool"] []) : Cal P w K mg base 3 "_law_great" spLgr [] := by
  refine cal0 F b .nil scLgr (fun vs H Q E h => ?_) (fun cdv A outer s H vs Q E hr h => ?_)
  · obtain ⟨p, l, rfl, _⟩ := h
    rfl
  · obtain ⟨p, l, rfl, hP, k⟩ := h
    refine ⟨_, pss_cons (ps_set (i := 1) scLgr.nd rfl (Or.inl rfl) (pe_op op_add (pe_op op_mulW (pe_c c_take hr (by omega) (by rfl) (pa_cons (pv 0) (pa_cons (pe_op op_pow pe_int pe_int) pa_nil))) (pe_op op_pow pe_int pe_int)) (pe_c c_take hr (by omega) (by rfl) (pa_cons (pv 0) (pa_cons (pe_op op_pow pe_int pe_int) pa_nil)))))
      (pss_one (ps_ret (pe_op op_add (pe_op op_add pe_int (pe_op op_mulW (pv 1) (pe_ix (kIxT K) (pe_tup (pa_cons pe_int (pa_cons (pe_op op_pow pe_int pe_int) (pa_cons (pe_op op_pow pe_int pe_int) (pa_cons (pe_op op_pow pe_int pe_int) pa_nil))))) (pe_c c_take hr (by omega) (by rfl) (pa_cons (pv 0) (pa_cons pe_int pa_nil))) (fun _ _ => rfl)))) (pe_c c_take hr (by omega) (by rfl) (pa_cons (pv 0) (pa_cons pe_int pa_nil)))))), ?_⟩
    walk_at "go"
    rw [show (10 : Int) ^ 8 = 100000000 by decide]
    refine r_take' hP (by decide) (by decide) (fun H1 d1 e1 P1 l1 u1 => ?_)
    walk_at "rd"
    rw [show (10 : Int) ^ 7 = 10000000 by decide]
    refine R.ic (wide_mul (a := 30) (b := 30) (by show _ < 1073741824; omega) (by decide) (by decide) (by decide) (by decide)) ?_
    walk_at "rd"
    rw [show (10 : Int) ^ 7 = 10000000 by decide]
    refine r_take' P1 (by decide) (by decide) (fun H2 d2 e2 P2 l2 u2 => ?_)
    have w1 : d1 * 10000000 + d2 ≤ 999999999999999 := by omega
    have w0 : 0 ≤ d1 * 10000000 + d2 := by omega
    walk_at "rd"
    generalize d1 * 10000000 + d2 = wd at *
    refine ⟨by decide, fun t1 ht1 => R.gen ht1 fun H3 s3 h3 => ?_⟩
    have P3 := P2.same s3
    have t1p := (P2.nep ht1).1
    walk_at "rd"
    refine r_take' P3 (by decide) (by decide) (fun H4 d4 e4 P4 l4 u4 => ?_)
    have h4 := e4 _ _ t1p h3
    obtain ⟨v, hv1, ev⟩ := atI_in (xs := [V.int 1, .int (10 ^ 5), .int (10 ^ 10), .int (10 ^ 15)]) l4 u4
    obtain ⟨x1, rfl, x10, x11⟩ : ∃ x1 : Int, v = .int x1 ∧ 1 ≤ x1 ∧ x1 ≤ 1000000000000000 := by
      simp only [List.mem_cons, List.not_mem_nil, or_false] at hv1
      rcases hv1 with rfl | rfl | rfl | rfl <;> exact ⟨_, rfl, by decide, by decide⟩
    have h4' : H4 t1 = some (.tup [V.int 1, .int (10 ^ 5), .int (10 ^ 10), .int (10 ^ 15)]) := h4
    walk_at "rd"
    refine R.ic (wide_mul (a := 60) (b := 60) (by show _ < 1152921504606846976; omega) (by show _ < 1152921504606846976; omega) (by decide) (by decide) (by decide)) ?_
    have q1 : wd * x1 ≤ 999999999999999 * 1000000000000000 := Int.mul_le_mul w1 x11 (by omega) (by decide)
    have q0 : 0 ≤ wd * x1 := Int.mul_nonneg w0 (by omega)
    walk_at "rd"
    refine r_take' P4 (by decide) (by decide) (fun H5 d5 e5 P5 l5 u5 => ?_)
    walk_at "rd"
    exact k H5 _ ((((e1.trans e2).trans (SameBut.of s3)).trans e4).trans e5) P5 (by omega) (by omega)
end
end KN
end
section
set_option Elab.async false
set_option linter.all false
set_option maxRecDepth 100000
set_option maxHeartbeats 4000000
set_option pp.maxSteps 1500
set_option pp.deepTerms false
local macro_rules | `(tactic| walk_at "ne") => `(tactic| first
  | assumption | (apply Ne.symm; assumption)
  | exact R.ne_new (by assumption) | exact (R.ne_new (by assumption)).symm
  | exact L2.ne_of_none (by assumption) (by assumption) | exact (L2.ne_of_none (by assumption) (by assumption)).symm
  | exact L2.ne_of_none (by assumption) (R.free_new (by assumption)) | exact (L2.ne_of_none (by assumption) (R.free_new (by assumption))).symm)
local macro_rules | `(tactic| walk_at "at") => `(tactic| first
  | assumption | exact L2.upd_same
  | (refine R.sb (H := ?H) (p := ?p) ?e ?n ?h; (case e => assumption); (case n => walk_at "ne"); (case h => walk_at "at"))
  | (refine R.sm (H := ?H) ?e ?h; (case e => assumption); (case h => walk_at "at"))
  | (refine Eq.trans (L2.upd_ne ?_) ?_ <;> first | walk_at "ne" | walk_at "at"))
local macro_rules | `(tactic| walk_at "sqt") => `(tactic| first | assumption | (refine L2.SqT.of ?_; walk_at "at"))
local macro_rules | `(tactic| walk_at "ty") => `(tactic| first | exact R.tyN | exact R.tyB | exact R.tyI | exact R.tyS | (refine R.tyT (xs := ?xs) ?h; case h => walk_at "at") | (refine R.tyL (xs := ?xs) ?h; case h => walk_at "at"))
local macro_rules | `(tactic| walk_at "kit") => `(tactic| first | exact R.kit_NoneType_tuple | exact R.kit_NoneType_list | exact R.kit_NoneType_bool | exact R.kit_NoneType_str | exact R.kit_NoneType_int | exact R.kit_bool_tuple | exact R.kit_bool_list | exact R.kit_bool_bool | exact R.kit_bool_str | exact R.kit_bool_int | exact R.kit_int_tuple | exact R.kit_int_list | exact R.kit_int_bool | exact R.kit_int_str | exact R.kit_int_int | exact R.kit_str_tuple | exact R.kit_str_list | exact R.kit_str_bool | exact R.kit_str_str | exact R.kit_str_int | exact R.kit_tuple_tuple | exact R.kit_tuple_list | exact R.kit_tuple_bool | exact R.kit_tuple_str | exact R.kit_tuple_int | exact R.kit_list_tuple | exact R.kit_list_list | exact R.kit_list_bool | exact R.kit_list_str | exact R.kit_list_int)
local macro_rules | `(tactic| walk_at "sz") => `(tactic| first | assumption | (refine Nat.le_trans ?_ (show 1000 ≤ PySem.sizeLine by decide); omega) | decide)
local macro_rules | `(tactic| walk_at "szl") => `(tactic| first | assumption | exact Nat.le_of_lt (L2.small1000 (by omega)) | decide | decide +kernel)
local macro_rules | `(tactic| walk_at "sys") => `(tactic| first | assumption | exact KN.SysAt.same (by assumption) (by assumption))
local macro_rules | `(tactic| walk_at "dk") => `(tactic| first | exact R.rowsS _ _ | exact R.rowsM _ _)
local macro_rules | `(tactic| walk_at "sqa") => `(tactic| first | assumption | exact R.SeqA.same (by assumption) (by assumption) | exact R.SeqA.new (by assumption) (by assumption) | (exact Or.inl (by walk_at "at")) | (exact Or.inr (by walk_at "at")))
local macro_rules | `(tactic| walk_at "ix") => `(tactic| first | rfl | (exact L2.atI_nat (by assumption)) | assumption)
local macro_rules | `(tactic| walk_at "cond") => `(tactic| first
  | exact Or.inl (by decide) | exact Or.inr (by decide) | exact Or.inl ⟨by omega, by omega⟩ | exact Or.inr ⟨by omega, by omega⟩
  | (constructor <;> omega) | (show _ ≠ _; omega) | decide | omega)
local macro_rules | `(tactic| walk_at "r1") => `(tactic| first
  | with_reducible refine R.seq ?_ | with_reducible refine R.asg ?_ | with_reducible refine R.ifs ?_ | with_reducible refine R.ret ?_ | with_reducible refine R.retN ?_ | with_reducible refine R.drop ?_ | with_reducible refine R.next ?_
  | with_reducible refine R.op ?_ | ((with_reducible refine R.var (v := ?v) ?h ?q); case h => rfl) | with_reducible refine R.c ?_ | with_reducible refine R.tst ?_ | with_reducible refine R.tb_ ?_ | with_reducible refine R.ex ?_
  | with_reducible refine R.i0 ?_ | with_reducible refine R.eqI ?_ | with_reducible refine R.neI ?_ | ((with_reducible refine R.ic ?_ ?_); · walk_at "cond") | with_reducible refine R.u0 ?_ | with_reducible refine R.un ?_
  | ((with_reducible refine R.eq ?_ ?_); · rfl) | ((with_reducible refine R.ne ?_ ?_); · rfl)
  | with_reducible refine R.and_ ?_ | with_reducible refine R.or_ ?_ | with_reducible refine R.not_ ?_ | with_reducible refine R.ife ?_ | with_reducible refine R.chain ?_
  | with_reducible refine R.cons ?_ | with_reducible refine R.nil ?_ | with_reducible refine R.call ?_ | with_reducible refine R.cb ?_ | with_reducible refine R.bm ?_
  | with_reducible refine R.gname ?_ | with_reducible refine R.gsub ?_ | with_reducible refine R.gnil ?_ | with_reducible refine R.gcons ?_ | with_reducible refine R.yes ?_
  | with_reducible refine R.int1 ?_ | ((with_reducible refine R.lenL (xs := ?xs) ?h ?q); case h => walk_at "at")
  | ((with_reducible refine R.ixL (xs := ?xs) (v := ?v) ?h ?e ?q); (case h => walk_at "at"); (case e => walk_at "ix"))
  | ((with_reducible refine R.setL (xs := ?xs) (n := ?n) ?h ?e ?q); (case h => walk_at "at"); (case e => rfl))
  | ((with_reducible refine R.append (xs := ?xs) ?h ?e ?q); (case h => walk_at "at"); (case e => walk_at "cond"))
  | with_reducible refine R.is_ ?_ | with_reducible refine R.isnot ?_ | with_reducible refine R.andV ?_ | with_reducible refine R.orV ?_ | with_reducible refine R.notV ?_
  | ((with_reducible refine R.isi (s := ?s) (b := ?b) ?ty ?h ?q); (case ty => walk_at "ty"); (case h => walk_at "kit"))
  | ((with_reducible refine R.addS ?h ?q); (case h => walk_at "sz")) | with_reducible refine R.max2 ?_ | with_reducible refine R.min2 ?_
  | ((with_reducible refine R.lenStr ?h ?q); (case h => walk_at "szl")) | ((with_reducible refine R.ixS (n := ?n) ?h ?e ?q); (case h => walk_at "szl"); (case e => walk_at "ix"))
  | ((with_reducible refine R.tyl (xs := ?xs) ?h ?q); (case h => walk_at "at")) | with_reducible refine R.itlist ?_ | with_reducible refine R.ittup ?_ | with_reducible refine R.m1 ?_ | with_reducible refine R.m1s ?_ | with_reducible refine R.leS ?_ | with_reducible refine R.itstr ?_ | with_reducible refine R.itstrE ?_ | with_reducible refine R.lc ?_ | with_reducible refine R.lc2 ?_ | with_reducible refine R.ckw ?_ | with_reducible refine R.par ?_ | with_reducible refine R.parE ?_ | with_reducible refine R.itrev ?_ | with_reducible refine R.dsetd ?_ | with_reducible refine R.dnotin_ ?_ | with_reducible refine R.for_ ?_ | ((with_reducible refine R.all_ (bs := ?bs) ?h ?q); (case h => walk_at "at"))
  | with_reducible refine R.rng1 ?_ | ((with_reducible refine R.rngE ?h ?q); (case h => (constructor <;> omega)))
  | ((with_reducible refine R.lenT (xs := ?xs) ?h ?q); (case h => walk_at "sqt")) | ((with_reducible refine R.ixT (xs := ?xs) (v := ?v) ?h ?e ?q); (case h => walk_at "sqt"); (case e => walk_at "ix"))
  | ((refine R.itlE (xs := ?xs) ?h ?q); (case h => walk_at "at")) | ((refine R.ittE (xs := ?xs) ?h ?q); (case h => walk_at "at"))
  | ((refine R.gseq (xs := ?xs) ?h ?e ?q); (case h => walk_at "sqa"); (case e => rfl)) | ((refine R.ixA (xs := ?xs) (v := ?v) ?h ?e ?q); (case h => walk_at "sqa"); (case e => walk_at "ix")) | ((refine R.lenA (xs := ?xs) ?h ?q); (case h => walk_at "sqa"))
  | ((with_reducible refine R.gtup (xs := ?xs) ?h ?e ?q); (case h => walk_at "sqt"); (case e => rfl))
  | with_reducible refine R.din_ ?_ | with_reducible refine R.dput_ ?_
  | with_reducible refine R.dget2_ ?_ | ((with_reducible refine R.aug_ (x := ?x) ?h ?q); case h => rfl) | with_reducible refine R.ipI_ ?_
  | with_reducible refine R.rng2 ?_ | ((with_reducible refine R.rngE2 ?h ?q); (case h => (refine ⟨?_, ?_, ?_, ?_⟩ <;> omega)))
  | with_reducible refine R.brk ?_ | with_reducible refine R.intB ?_ | with_reducible refine R.meth_ ?_ | ((refine KN.methS (rs := ?rs) (ms := ?ms) ?h (fun _ _ _ _ => rfl) ?q); case h => walk_at "sys")
  | with_reducible refine R.sl_ ?_ | with_reducible refine R.np_ ?_ | with_reducible refine R.pt_ ?_ | with_reducible refine R.ptE ?_ | with_reducible refine R.dget_ ?_ | with_reducible refine R.revL_ ?_
  | ((refine R.dgetS (kvs := ?kvs) (v := ?v) ?h ?e ?q); (case h => walk_at "at"); (case e => walk_at "dk"))
  | with_reducible refine R.sfld ?_ | with_reducible refine R.fld_ ?_ | with_reducible refine R.dc ?_
  | with_reducible refine R.dget1_ ?_
  | with_reducible refine R.itseq ?_ | with_reducible refine R.itenum ?_
  | with_reducible refine R.itT ?_ | with_reducible refine R.itF ?_ | with_reducible refine R.itNT ?_ | with_reducible refine R.itNF ?_
  | (with_reducible refine R.tup ?_) | (with_reducible refine R.lst ?_))
local macro_rules | `(tactic| walk_at "rd") => `(tactic| (repeat (first | walk_at "r1" | (dsimp only [Int.reduceToNat, List.set_cons_succ, List.set_cons_zero, List.length_cons, List.length_nil, List.nil_append, List.cons_append, List.append_nil]))))
local macro_rules | `(tactic| walk_at "go") => `(tactic| (rw [R.start_eq]; dsimp only [R.startE, List.map_nil]; walk_at "rd"))
local macro_rules | `(tactic| walk_at "r1") => `(tactic| first | with_reducible refine R.callN ?_ | with_reducible refine R.tr_ ?_ | with_reducible refine R.rng3 ?_ | with_reducible refine R.bits ?_ | with_reducible refine R.dnewT ?_)
-- RTX
namespace KN
open PySem L2 SX R
open C8 (Cal Def cal0 pe_c pe_gc fnScope fnBody pss_cut Met pe_mt pe_mt0)
section
variable {P : Program} {w : World} {K : PySem.W.Frag} {mg : Str → Option Value} {base : Heap}
abbrev sLaw : Stmt := top 42
theorem scLaw : FnScope ["script", "pool", "rows", "system", "known", "edge", "sums", "number", "turn", "start", "stop", "due", "great", "middle", "parts"] ["script"] (fnScope sLaw) := ⟨rfl, rfl, rfl, by decide +kernel, rfl, by decide +kernel, by decide +kernel⟩
def spTop (K : PySem.W.Frag) : Sp := fun us H Q _ => ∃ (q : Addr) (js : List Int), us = [.ref q] ∧ SqL K H q (js.map V.int) ∧ js.length ≤ 63 ∧ ∀ G, Q (.bl true) G
theorem SysAt.pool {S x p l : Addr} {H H' : Hp} {rs : List SR} {ms : List MR} (h : SysAt S H x rs ms) (P : PoolAt H p l) (e : SameBut p H H') : SysAt S H' x rs ms := by
  obtain ⟨⟨cs, i, d, z, hp, _⟩, _⟩ := id P
  obtain ⟨dx, s, m, v, r, xs, ys, h1, h2, h3, h4, h5, h6, h7⟩ := h
  exact ⟨dx, s, m, v, r, xs, ys, e _ _ (ne_of h1 hp (by intro z; cases z)) h1, e _ _ (ne_of h2 hp (by intro z; cases z)) h2, h3.keep (keep_pool P e), e _ _ (ne_of h4 hp (by intro z; cases z)) h4, h5.keep (keep_pool P e), e _ _ (ne_of h6 hp (by intro z; cases z)) h6, e _ _ (ne_of h7 hp (by intro z; cases z)) h7⟩
/-- what stands while the law goes on -/
structure S22 (H0 H : Hp) (p l d sl : Addr) (rs : List SR) (ms : List MR) (M G : Nat) : Prop where
  e : SameBut p H0 H
  P : PoolAt H p l
  K : KnownC H d rs ms G
  s : H sl = some (.lst (sumV (WN rs ms []) M))
section
variable {H0 H H' : Hp} {p l d sl : Addr} {rs : List SR} {ms : List MR} {M G : Nat}
theorem S22.take (h : S22 H0 H p l d sl rs ms M G) (sp : sl ≠ p) (e : SameBut p H H') (P : PoolAt H' p l) : S22 H0 H' p l d sl rs ms M G := by
  obtain ⟨⟨cs, i, d', z, hp, _⟩, _⟩ := id h.P
  obtain ⟨kvs, k1, k2⟩ := h.K
  exact ⟨h.e.trans e, P, ⟨kvs, e _ _ (ne_of k1 hp (by intro z; cases z)) k1, k2⟩, e _ _ sp h.s⟩
theorem S22.same (h : S22 H0 H p l d sl rs ms M G) (s : Same H H') : S22 H0 H' p l d sl rs ms M G := ⟨h.e.trans (SameBut.of s), h.P.same s, h.K.same s, s _ _ h.s⟩
theorem S22.known {G' : Nat} (h : S22 H0 H p l d sl rs ms M G) (d0 : H0 d = none) (e : SameBut d H H') (K' : KnownC H' d rs ms G') : S22 H0 H' p l d sl rs ms M G' := by
  obtain ⟨⟨cs, i, d', z, hp, hl, hpos⟩, hne⟩ := id h.P
  obtain ⟨kvs, k1, k2⟩ := h.K
  refine ⟨fun b o hb h0 => e _ _ (fun z => by subst z; rw [h0] at d0; cases d0) (h.e _ _ hb h0), ⟨⟨cs, i, d', z, e _ _ (ne_of hp k1 (by intro z; cases z)) hp, e _ _ (ne_of hl k1 (by intro z; cases z)) hl, hpos⟩, hne⟩, K', e _ _ (ne_of h.s k1 (by intro z; cases z)) h.s⟩
theorem S22.put {t : Addr} {o : HO} (h : S22 H0 H p l d sl rs ms M G) (t0 : H0 t = none) (tp : t ≠ p) (tl : t ≠ l) (td : t ≠ d) (ts : t ≠ sl) : S22 H0 (upd H t o) p l d sl rs ms M G := by
  obtain ⟨kv, q1, q2⟩ := h.K
  exact ⟨h.e.put' t0, h.P.put tp tl, ⟨kv, by rw [upd_ne (Ne.symm td)]; exact q1, q2⟩, by rw [upd_ne (Ne.symm ts)]; exact h.s⟩
theorem S22.free {t : Addr} (h : S22 H0 H p l d sl rs ms M G) (hp : H0 p ≠ none) (n : H t = none) : H0 t = none ∧ t ≠ p ∧ t ≠ l ∧ t ≠ d ∧ t ≠ sl := by
  obtain ⟨tp, tl⟩ := h.P.nep n
  obtain ⟨kv, q1, q2⟩ := h.K
  refine ⟨?_, tp, tl, (fun z => by rw [z, q1] at n; cases n), (fun z => by rw [z, h.s] at n; cases n)⟩
  cases z : H0 t with
  | none => rfl
  | some o => have := h.e _ _ tp z; rw [n] at this; cases this
theorem S22.mono {G' : Nat} (h : S22 H0 H p l d sl rs ms M G) (q : G ≤ G') : S22 H0 H p l d sl rs ms M G' := ⟨h.e, h.P, h.K.mono q, h.s⟩
end
theorem ok_law (Z : Zs mg) {S : Addr}
    (c_pool : Cal P w K mg base 1 "_law_pool" (spPool K) []) (c_take : Cal P w K mg base 2 "_law_take" spTake []) (c_small : Cal P w K mg base 7 "_law_small" spSmall []) (c_made : Cal P w K mg base 6 "_law_made" (spMade S) []) (c_edge : Cal P w K mg base 2 "_law_edge" (spRows1 fun rs ms => .int (edgeF rs ms)) [])
    (c_count : Cal P w K mg base 101 "_law_count" (spCountG 100) []) (c_same : Cal P w K mg base 6 "_law_same" (spSame 4) []) (c_great : Cal P w K mg base 3 "_law_great" spLgr []) (c_up_to : Cal P w K mg base 202 "_law_up_to" (spUp 100) []) (c_sayable_count : Cal P w K mg base 6 "sayable_count" (spSc S) [])
    {f : Addr} {fd : FuncData} (F : Fun K "law" "law" sLaw f fd) : FnOk P w K mg base C8.CX0 203 f fd ["script"] (spTop K) := by
  refine F.ok scLaw (fun vs H Q E h => ?_) (fun cdv A outer s H vs Q E hr h => ?_)
  · obtain ⟨a, ns, rfl, _⟩ := h
    rfl
  · obtain ⟨a, ns, rfl, hS, hlen, k⟩ := h
    refine ⟨_, pss_cons (ps_set (i := 1) scLaw.nd rfl (Or.inl rfl) (pe_c c_pool hr (by omega) (by rfl) (pa_cons (pv 0) pa_nil)))
      (pss_cons (ps_set (i := 2) scLaw.nd rfl (Or.inr rfl) (pe_c c_small hr (by omega) (by rfl) (pa_cons (pv 1) pa_nil)))
      (pss_cons (ps_set (i := 3) scLaw.nd rfl (Or.inl rfl) (pe_c c_made hr (by omega) (by rfl) (pa_cons (pv 1) (pa_cons (pv 2) pa_nil))))
      (pss_cons (ps_set (i := 4) scLaw.nd rfl (Or.inr rfl) pe_dnewK)
      (pss_cons (ps_set (i := 5) scLaw.nd rfl (Or.inl rfl) (pe_op op_add (pe_c c_edge hr (by omega) (by rfl) (pa_cons (pv 2) pa_nil)) pe_int))
      (pss_cons (ps_set (i := 6) scLaw.nd rfl (Or.inl rfl) (pe_lst (pa_cons pe_int pa_nil)))
      (pss_cons (ps_for PassesOwn.never rfl (R.pi_range2W (by rfl) Z.range (pa_cons pe_int (pa_cons (pe_op op_add (pv 5) pe_int) pa_nil))) (pg_name (i := 7) scLaw.nd rfl (Or.inl rfl))
        (pss_one (ps_expr (kBM K (pe_bm PySem.F.plainAttrs_list PySem.F.slot_list_append PySem.F.type_list_append mt_append (pv 6) (pa_cons (pe_op op_add (pe_ix (kIxL K) (pv 6) (pe_un un_neg pe_int) (fun _ _ => rfl)) (pe_callTy cIntB (by rfl) Z.int (by decide +kernel) (pa_cons (pe_cmpR op_gt (pe_c c_count hr (by omega) (by rfl) (pa_cons (pv 2) (pa_cons (pv 7) (pa_cons (pv 4) pa_nil)))) pe_int (nomark _)) pa_nil))) pa_nil))))))
      (pss_cons (ps_for PassesOwn.never rfl (pi_range1 (by rfl) Z.range (pa_cons pe_int pa_nil)) (pg_name (i := 8) scLaw.nd rfl (Or.inl rfl))
        (pss_cons (ps_set (i := 9) scLaw.nd rfl (Or.inl rfl) (pe_op op_add pe_int (pe_c c_take hr (by omega) (by rfl) (pa_cons (pv 1) (pa_cons (pv 5) pa_nil)))))
      (pss_cons (ps_set (i := 10) scLaw.nd rfl (Or.inl rfl) (pe_op op_add (pv 9) (pe_c c_take hr (by omega) (by rfl) (pa_cons (pv 1) (pa_cons (pe_op op_add (pe_op op_sub (pv 5) (pv 9)) pe_int) pa_nil)))))
      (pss_cons (ps_if (pt_not (pt_val (pe_c c_same hr (by omega) (by rfl) (pa_cons (pe_c c_sayable_count hr (by omega) (by rfl) (pa_cons (pv 3) (pa_cons (pv 9) (pa_cons (pv 10) pa_nil)))) (pa_cons (pe_op op_sub (pe_ix (kIxL K) (pv 6) (pv 10) (fun _ _ => rfl)) (pe_ix (kIxL K) (pv 6) (pe_op op_sub (pv 9) pe_int) (fun _ _ => rfl))) pa_nil)))))
        (pss_one (ps_ret pe_bl))
        (pss_nil))
      (pss_cons (ps_set (i := 9) scLaw.nd rfl (Or.inl rfl) (pe_c c_great hr (by omega) (by rfl) (pa_cons (pv 1) pa_nil)))
      (pss_cons (ps_set (i := 10) scLaw.nd rfl (Or.inl rfl) (pe_op op_add (pv 9) (pe_c c_take hr (by omega) (by rfl) (pa_cons (pv 1) (pa_cons pe_int pa_nil)))))
      (pss_cons (ps_set (i := 11) scLaw.nd rfl (Or.inl rfl) (pe_callB (kLen K) (by rfl) Z.len PySem.boot_len (pa_cons (pe_lc (own := [("number", 7)]) (g := gName 7) rfl scLaw.nd (R.pi_range2W (by rfl) Z.range (pa_cons (pv 9) (pa_cons (pe_op op_add (pv 10) pe_int) pa_nil))) (blkOk_by (own := [("number", 7)]) (N := ["script", "pool", "rows", "system", "known", "edge", "sums", "number", "turn", "start", "stop", "due", "great", "middle", "parts"]) (sc := fnScope sLaw) (by decide +kernel)) (fun _ _ _ _ _ => (pg_name (i := 7) scLaw.nd rfl (Or.inl rfl))) (fun _ _ _ _ _ => pts_one (pt_cmpR op_gt (pe_c c_count hr (by omega) (by rfl) (pa_cons (pv 2) (pa_cons (pv 7) (pa_cons (pv 4) pa_nil)))) pe_int (nomark _))) (fun _ _ _ _ _ => pv 7)) pa_nil)))
      (pss_one (ps_if (pt_not (pt_val (pe_c c_same hr (by omega) (by rfl) (pa_cons (pe_c c_sayable_count hr (by omega) (by rfl) (pa_cons (pv 3) (pa_cons (pv 9) (pa_cons (pv 10) pa_nil)))) (pa_cons (pv 11) pa_nil)))))
        (pss_one (ps_ret pe_bl))
        (pss_nil))))))))))
      (pss_cons (ps_set (i := 12) scLaw.nd rfl (Or.inl rfl) (pe_c c_great hr (by omega) (by rfl) (pa_cons (pv 1) pa_nil)))
      (pss_cons (ps_if (pt_not (pt_val (pe_c c_same hr (by omega) (by rfl) (pa_cons (pe_c c_sayable_count hr (by omega) (by rfl) (pa_cons (pv 3) (pa_cons pe_int (pa_cons (pv 12) pa_nil)))) (pa_cons (pe_c c_up_to hr (by omega) (by rfl) (pa_cons (pv 2) (pa_cons (pv 12) (pa_cons (pv 4) (pa_cons (pv 6) pa_nil))))) pa_nil)))))
        (pss_one (ps_ret pe_bl))
        (pss_nil))
      (pss_cons (ps_set (i := 9) scLaw.nd rfl (Or.inl rfl) (pe_op op_add pe_int (pe_op op_mod (pe_callTy cInt (by rfl) Z.int (by decide +kernel) (pa_cons (pe_c c_great hr (by omega) (by rfl) (pa_cons (pv 1) pa_nil)) pa_nil)) (pv 12))))
      (pss_cons (ps_set (i := 13) scLaw.nd rfl (Or.inl rfl) (pe_op op_add (pv 9) (pe_op op_mod (pe_callTy cInt (by rfl) Z.int (by decide +kernel) (pa_cons (pe_c c_great hr (by omega) (by rfl) (pa_cons (pv 1) pa_nil)) pa_nil)) (pe_op op_add (pe_op op_sub (pv 12) (pv 9)) pe_int))))
      (pss_cons (ps_set (i := 14) scLaw.nd rfl (Or.inl rfl) (pe_op op_add (pe_c c_sayable_count hr (by omega) (by rfl) (pa_cons (pv 3) (pa_cons (pv 9) (pa_cons (pv 13) pa_nil)))) (pe_c c_sayable_count hr (by omega) (by rfl) (pa_cons (pv 3) (pa_cons (pe_op op_add (pv 13) pe_int) (pa_cons (pe_op op_add (pv 12) pe_int) pa_nil))))))
      (pss_one (ps_ret (pe_c c_same hr (by omega) (by rfl) (pa_cons (pe_c c_sayable_count hr (by omega) (by rfl) (pa_cons (pv 3) (pa_cons (pv 9) (pa_cons (pe_op op_add (pv 12) pe_int) pa_nil)))) (pa_cons (pv 14) pa_nil))))))))))))))))), ?_⟩
    walk_at "go"
    refine ⟨a, ns, rfl, hS, hlen, fun H1 p l s1 np nl P1 => ?_⟩
    refine R.gname ?_
    dsimp only [List.set_cons_succ, List.set_cons_zero, List.map_nil]
    walk_at "rd"
    obtain ⟨⟨cs, i0, d0, s0, hp, hl, hpos⟩, hne⟩ := id P1
    refine ⟨p, l, cs, rfl, P1, hl, fun H2 r rs ms e2 P2 R2 dr hbm => ?_⟩
    have hg := dr.g
    walk_at "rd"
    refine ⟨p, l, r, rs, ms, rfl, P2, R2, hg, fun H3 x e3 P3 X3 => ?_⟩
    have R3 := R2.pool P2 e3
    have hvv : ∀ m ∈ ms, 2 ≤ m.v := fun m hm => (hg.m m hm).lo
    obtain ⟨b1, b0⟩ := bmax_le hg
    walk_at "rd"
    refine dnew fun d hd => R.gen hd fun H4 s4 h4 => ?_
    have K4 : KnownC H4 d rs ms 0 := ⟨[], h4, (fun n v h => by cases h), List.nodup_nil, (fun q h => by cases h), Nat.le_refl _⟩
    walk_at "rd"
    refine ⟨r, rs, ms, rfl, R3.same s4, hg, fun H5 s5 => ?_⟩
    have he9 := dr.edge hbm
    walk_at "rd"
    refine ⟨by decide, fun sl hsl => R.gen hsl fun H6 s6 h6 => ?_⟩
    have ekn : endF ms = none → edgeF rs ms = bmax rs ms + 1 := fun e => by unfold edgeF; rw [e]
    have eks : ∀ m, endF ms = some m → edgeF rs ms = mx (bmax rs ms) m.v + m.v ∧ bmax rs ms ≤ mx (bmax rs ms) m.v ∧ m.v ≤ mx (bmax rs ms) m.v ∧ 2 ≤ m.v := fun m e => by
      refine ⟨by unfold edgeF; rw [e], ?_, ?_, hvv m (List.mem_of_find?_eq_some e)⟩
      · unfold mx; split <;> omega
      · unfold mx; split <;> omega
    have e0 : bmax rs ms + 1 ≤ edgeF rs ms := by
      cases e : endF ms with
      | none => have := ekn e; omega
      | some m => obtain ⟨a, b, c, d⟩ := eks m e; omega
    obtain ⟨M, hM⟩ : ∃ M : Nat, edgeF rs ms + 10 = (M : Int) := ⟨(edgeF rs ms + 10).toNat, by omega⟩
    have F : Far rs ms M := ⟨by omega, (fun m he => by obtain ⟨a, b, c, d⟩ := eks m he; omega), dr.v, by omega, by omega⟩
    rw [hM]
    have hM9 : M ≤ 4010 := by omega
    have sl0 : H3 sl = none := by
      cases z : H3 sl with
      | none => rfl
      | some o => have := s5 _ _ (s4 _ _ z); rw [hsl] at this; cases this
    have spn : sl ≠ p := by
      obtain ⟨⟨_, _, _, _, q, _⟩, _⟩ := id P3
      rintro rfl
      rw [sl0] at q; cases q
    have sln : sl ≠ l := by
      obtain ⟨⟨_, _, _, _, _, q, _⟩, _⟩ := id P3
      rintro rfl
      rw [sl0] at q; cases q
    have sdn : sl ≠ d := by
      rintro rfl
      have := s5 _ _ h4
      rw [hsl] at this; cases this
    have st0 : S22 H3 H6 p l d sl rs ms 0 0 := ⟨SameBut.of ((s4.trans s5).trans s6), P3.same ((s4.trans s5).trans s6), K4.same (s5.trans s6), h6⟩
    have Rk : ∀ {G : Hp} {i g : Nat}, S22 H3 G p l d sl rs ms i g → RowsAt G r rs ms := fun st => R3.pool P3 st.e
    have Xk : ∀ {G : Hp} {i g : Nat}, S22 H3 G p l d sl rs ms i g → SysAt S G x rs ms := fun st => X3.pool P3 st.e
    have bm9 : bmax rs ms ≤ 9000 := by omega
    have v99 : ∀ m ∈ ms, m.v ≤ 9000 := fun m hm => by have := dr.v m hm; omega
    have hp3 : H3 p ≠ none := by
      obtain ⟨⟨_, _, _, _, q, _⟩, _⟩ := id P3
      rw [q]; intro z; cases z
    have p30 : ∀ n : Nat, n ≤ 1000000000000000000000000000100 → n < 2 ^ 3000 := fun n h => Nat.lt_of_lt_of_le (show n < 2 ^ 100 by show _ < 1267650600228229401496703205376; omega) (Nat.pow_le_pow_right (by decide) (by decide))
    have pj : ∀ n : Nat, n ≤ 1000000000000000000000000000100 → ((n : Nat) : Int) < 2 ^ 100 := fun n h => by
      have : (2 : Int) ^ 100 = 1267650600228229401496703205376 := by decide
      omega
    walk_at "rd"
    refine R.rngW ?_
    walk_at "rd"
    refine R.rngWE ?_
    refine for_it walk_range (fun i σ' H' => ∃ q7, σ' = [some (.ref a), some (.ref p), some (.ref r), some (.ref x), some (.ref d), some (.int (M : Nat)), some (.ref sl), q7, none, none, none, none, none, none, none] ∧ S22 H3 H' p l d sl rs ms i 0) ⟨_, rfl, st0⟩ (fun _ _ _ _ _ => trivial) ?_ ?_
    · rintro i u σ' H7 H7' hi ⟨q7, rfl, st⟩ ⟨rfl, rfl⟩
      have hs7 := st.s
      refine R.gname ?_
      walk_at "rd"
      refine R.ixL hs7 (sumV_last _ _) ?_
      walk_at "rd"
      have en : (1 : Int) + ((i : Nat) : Int) = ((i + 1 : Nat) : Int) := by omega
      rw [en]
      refine ⟨r, d, rs, ms, _, 0, rfl, Rk st, hg, st.K, by omega, pj _ (by omega), by decide, by rw [if_pos (by omega)]; decide, bm9, v99, fun H8 e8 K8 => ?_⟩
      rw [if_pos (by omega)] at K8
      have st8 := st.known hd e8 K8
      walk_at "rd"
      refine R.append st8.s (by rw [sumV_len]; show _ < 2 ^ 24; omega) ?_
      refine ⟨_, rfl, st8.e.put' sl0, st8.P.put spn sln, ?_, ?_⟩
      · obtain ⟨kv, q1, q2⟩ := st8.K
        exact ⟨kv, by rw [upd_ne (Ne.symm sdn)]; exact q1, q2⟩
      · rw [upd_same, sumV_snoc]
        have es : ((sA (WN rs ms []) i : Nat) : Int) + (if decide (0 < cnt rs ms ((i + 1 : Nat) : Int)) = true then 1 else 0) = ((sA (WN rs ms []) (i + 1) : Nat) : Int) := by
          show _ = ((sA (WN rs ms []) i + (if (WN rs ms [] (i + 1)).isSome = true then 1 else 0) : Nat) : Int)
          rw [WN_some hvv [] (by omega), show ∀ (x : Nat) (b : Bool), ((x + (if b = true then 1 else 0) : Nat) : Int) = ((x : Nat) : Int) + (if b = true then 1 else 0) from fun x b => by cases b <;> rfl]
        rw [es]
    · rintro σ' H7 ⟨q7, rfl, st⟩
      have eM : ((M : Nat) : Int) + 1 - 1 = ((M : Nat) : Int) := by omega
      rw [eM, Int.toNat_natCast] at st
      walk_at "rd"
      refine for_it walk_range (fun i σ' H' => ∃ q7 q8 q9 q10 q11, σ' = [some (.ref a), some (.ref p), some (.ref r), some (.ref x), some (.ref d), some (.int (M : Nat)), some (.ref sl), q7, q8, q9, q10, q11, none, none, none] ∧ S22 H3 H' p l d sl rs ms M (i * 4000)) ⟨_, _, _, _, _, rfl, by rw [Nat.zero_mul]; exact st⟩ (fun _ _ _ _ _ => trivial) ?_ ?_
      · rintro i u σ' H8 H8' hi ⟨q7, q8, q9, q10, q11, rfl, st⟩ ⟨rfl, rfl⟩
        refine R.gname ?_
        walk_at "rd"
        refine r_take' st.P (by omega) (by omega) (fun H9 d9 e9 P9 l9 u9 => ?_)
        have st9 := st.take spn e9 P9
        walk_at "rd"
        refine r_take' st9.P (by omega) (by omega) (fun H10 d10 e10 P10 l10 u10 => ?_)
        have st10 := st9.take spn e10 P10
        walk_at "rd"
        obtain ⟨si, hsi⟩ : ∃ si : Nat, 1 + d9 = (si : Int) := ⟨(1 + d9).toNat, by omega⟩
        obtain ⟨sj, hsj⟩ : ∃ sj : Nat, 1 + d9 + d10 = (sj : Int) := ⟨(1 + d9 + d10).toNat, by omega⟩
        rw [hsi] at hsj ⊢
        rw [hsj]
        refine ⟨x, si, sj, rs, ms, rfl, Xk st10, hg, by omega, by omega, p30 sj (by omega), fun H11 s11 => ?_⟩
        have st11 := st10.same s11
        walk_at "rd"
        refine R.ixL st11.s (atI_nat (sumV_at (k := sj) (by omega))) ?_
        walk_at "rd"
        rw [show ((si : Nat) : Int) - 1 = ((si - 1 : Nat) : Int) by omega]
        refine R.ixL st11.s (atI_nat (sumV_at (k := si - 1) (by omega))) ?_
        walk_at "rd"
        refine ⟨_, _, rfl, .inl ⟨rfl, .int _⟩, fun H12 s12 => ?_⟩
        have st12 := st11.same s12
        refine ⟨true, rfl, ?_⟩
        walk_at "rd"
        refine ⟨p, l, rfl, st12.P, fun H13 g13 e13 P13 g1 g2 => ?_⟩
        have st13 := st12.take spn e13 P13
        walk_at "rd"
        refine r_take' st13.P (by decide) (by decide) (fun H14 d14 e14 P14 l14 u14 => ?_)
        have st14 := st13.take spn e14 P14
        obtain ⟨gi, rfl⟩ : ∃ gi : Nat, g13 = (gi : Int) := ⟨g13.toNat, by omega⟩
        obtain ⟨dj, rfl⟩ : ∃ dj : Nat, d14 = (dj : Int) := ⟨d14.toNat, by omega⟩
        walk_at "rd"
        refine R.rngW ?_
        walk_at "rd"
        refine R.rngWE ?_
        intro D hD
        obtain ⟨D0, Dp, Dl, Dd, Ds⟩ := st14.free hp3 hD
        have en : ((gi : Int) + (dj : Int) + 1 - (gi : Int)).toNat = dj + 1 := by omega
        rw [en]
        have st14' : S22 H3 (upd H14 D (.lst [])) p l d sl rs ms M (i * 4000 + 0 * 100) := by rw [Nat.zero_mul]; exact st14.put D0 Dp Dl Dd Ds
        refine lc_range (lo := gi) (n := dj + 1) (fun k H' => S22 H3 H' p l d sl rs ms M (i * 4000 + k * 100) ∧ ∃ acc, H' D = some (.lst acc) ∧ acc.length + sA (WN rs ms []) (gi - 1) = sA (WN rs ms []) (gi - 1 + k) ∧ acc.length ≤ k) ⟨st14', [], upd_same, Nat.zero_add _, Nat.le_refl _⟩ ?_ ?_
        · rintro k H15 hk ⟨st, acc, ha, hal, ha9⟩
          refine R.gname ⟨rfl, ?_⟩
          walk_at "rd"
          have en2 : (gi : Int) + (k : Int) = ((gi - 1 + k + 1 : Nat) : Int) := by omega
          rw [en2]
          refine ⟨r, d, rs, ms, _, _, rfl, Rk st, hg, st.K, by omega, pj _ (by omega), by decide, by split <;> omega, bm9, v99, fun H16 e16 K16 => ?_⟩
          have st16 := st.known hd e16 (K16.mono (show _ ≤ i * 4000 + (k + 1) * 100 by split <;> omega))
          have ha16 := e16 _ _ Dd ha
          have es : sA (WN rs ms []) (gi - 1 + (k + 1)) = sA (WN rs ms []) (gi - 1 + k) + (if decide (cnt rs ms ((gi - 1 + k + 1 : Nat) : Int) > 0) = true then 1 else 0) := by
            show sA (WN rs ms []) (gi - 1 + k) + (if (WN rs ms [] (gi - 1 + k + 1)).isSome = true then 1 else 0) = _
            rw [WN_some hvv [] (by omega)]
          walk_at "rd"
          refine it (fun h8 => ?_) (fun h8 => ?_)
          · rw [if_pos (decide_eq_true h8)] at es
            walk_at "rd"
            refine ⟨acc, ha16, small1000 (by omega), st16.put D0 Dp Dl Dd Ds, acc ++ [_], upd_same, ?_, ?_⟩
            · rw [List.length_append, List.length_cons, List.length_nil]; omega
            · rw [List.length_append, List.length_cons, List.length_nil]; omega
          · rw [if_neg (by rw [decide_eq_true_eq]; exact h8)] at es
            exact ⟨st16, acc, ha16, by omega, by omega⟩
        · rintro H15 ⟨st15, acc, ha, hal, ha9⟩
          walk_at "rd"
          have ej : gi - 1 + (dj + 1) = gi + dj := by omega
          rw [ej] at hal
          rw [show (gi : Int) + (dj : Int) = ((gi + dj : Nat) : Int) by omega]
          refine ⟨x, gi, gi + dj, rs, ms, rfl, Xk st15, hg, by omega, by omega, p30 _ (by omega), fun H16 s16 => ?_⟩
          have st16 := st15.same s16
          have ha16 := s16 _ _ ha
          walk_at "rd"
          rw [show ((sA (WN rs ms []) (gi + dj) : Nat) : Int) - ((sA (WN rs ms []) (gi - 1) : Nat) : Int) = ((acc.length : Nat) : Int) by omega]
          refine ⟨_, _, rfl, .inl ⟨rfl, .int _⟩, fun H17 s17 => ?_⟩
          refine ⟨true, rfl, ?_⟩
          walk_at "rd"
          refine ⟨_, _, _, _, _, rfl, (st16.same s17).mono (by omega)⟩
      · rintro σ' H8 ⟨q7, q8, q9, q10, q11, rfl, st⟩
        walk_at "rd"
        refine ⟨p, l, rfl, st.P, fun H9 g9 e9 P9 g1 g2 => ?_⟩
        have st9 := st.take spn e9 P9
        obtain ⟨gn, rfl⟩ : ∃ gn : Nat, g9 = (gn : Int) := ⟨g9.toNat, by omega⟩
        walk_at "rd"
        refine ⟨x, 1, gn, rs, ms, rfl, Xk st9, hg, by omega, by omega, p30 _ (by omega), fun H10 s10 => ?_⟩
        have st10 := st9.same s10
        walk_at "rd"
        refine ⟨r, d, sl, rs, ms, gn, M, _, rfl, Rk st10, hg, st10.K, st10.s, F, by have := pj (gn + 1) (by omega); have e : ((2 ^ 100 : Nat) : Int) = (2 : Int) ^ 100 := by rw [Int.natCast_pow]; rfl
                                                                                    omega, by decide, by split <;> omega, fun H11 e11 K11 => ?_⟩
        have st11 := st10.known hd e11 (K11.mono (show _ ≤ 100000 by split <;> omega))
        walk_at "rd"
        refine ⟨_, _, rfl, .inl ⟨by show V.int (((sA (WN rs ms []) gn : Nat) : Int) - ((0 : Nat) : Int)) = _; rw [Int.natCast_zero, Int.sub_zero], .int _⟩, fun H12 s12 => ?_⟩
        have st12 := st11.same s12
        refine ⟨true, rfl, ?_⟩
        walk_at "rd"
        refine ⟨p, l, rfl, st12.P, fun H13 a13 e13 P13 a1 a2 => ?_⟩
        have st13 := st12.take spn e13 P13
        walk_at "rd"
        have m0 := Int.emod_nonneg a13 (show (gn : Int) ≠ 0 by omega)
        have m1 := Int.emod_lt_of_pos a13 (show (0 : Int) < (gn : Int) by omega)
        obtain ⟨si, hsi⟩ : ∃ si : Nat, 1 + a13 % (gn : Int) = (si : Int) := ⟨(1 + a13 % (gn : Int)).toNat, by omega⟩
        rw [hsi]
        refine ⟨p, l, rfl, st13.P, fun H14 b14 e14 P14 b1' b2' => ?_⟩
        have st14 := st13.take spn e14 P14
        walk_at "rd"
        have k0 := Int.emod_nonneg b14 (show (gn : Int) - (si : Int) + 1 ≠ 0 by omega)
        have k1 := Int.emod_lt_of_pos b14 (show (0 : Int) < (gn : Int) - (si : Int) + 1 by omega)
        obtain ⟨mi, hmi⟩ : ∃ mi : Nat, (si : Int) + b14 % ((gn : Int) - (si : Int) + 1) = (mi : Int) := ⟨((si : Int) + b14 % ((gn : Int) - (si : Int) + 1)).toNat, by omega⟩
        rw [hmi]
        refine ⟨x, si, mi, rs, ms, rfl, Xk st14, hg, by omega, by omega, p30 _ (by omega), fun H15 s15 => ?_⟩
        have st15 := st14.same s15
        walk_at "rd"
        rw [show (mi : Int) + 1 = ((mi + 1 : Nat) : Int) by omega, show (gn : Int) + 1 = ((gn + 1 : Nat) : Int) by omega]
        refine ⟨x, mi + 1, gn + 1, rs, ms, rfl, Xk st15, hg, by omega, by omega, p30 _ (by omega), fun H16 s16 => ?_⟩
        have st16 := st15.same s16
        rw [Nat.add_sub_cancel]
        walk_at "rd"
        rw [show (gn : Int) + 1 = ((gn + 1 : Nat) : Int) by omega]
        refine ⟨x, si, gn + 1, rs, ms, rfl, Xk st16, hg, by omega, by omega, p30 _ (by omega), fun H17 s17 => ?_⟩
        walk_at "rd"
        rw [show ((sA (WN rs ms []) mi : Nat) : Int) - ((sA (WN rs ms []) (si - 1) : Nat) : Int) + (((sA (WN rs ms []) (gn + 1) : Nat) : Int) - ((sA (WN rs ms []) mi : Nat) : Int)) = ((sA (WN rs ms []) (gn + 1) : Nat) : Int) - ((sA (WN rs ms []) (si - 1) : Nat) : Int) by omega]
        exact ⟨_, _, rfl, .inl ⟨rfl, .int _⟩, fun H18 s18 => k H18⟩
end
end KN
end
section
set_option Elab.async false
set_option linter.all false
set_option maxRecDepth 100000
set_option maxHeartbeats 4000000
set_option pp.maxSteps 1500
set_option pp.deepTerms false
local macro_rules | `(tactic| walk_at "ne") => `(tactic| first
  | assumption | (apply Ne.symm; assumption)
  | exact R.ne_new (by assumption) | exact (R.ne_new (by assumption)).symm
  | exact L2.ne_of_none (by assumption) (by assumption) | exact (L2.ne_of_none (by assumption) (by assumption)).symm
  | exact L2.ne_of_none (by assumption) (R.free_new (by assumption)) | exact (L2.ne_of_none (by assumption) (R.free_new (by assumption))).symm)
local macro_rules | `(tactic| walk_at "at") => `(tactic| first
  | assumption | exact L2.upd_same
  | (refine R.sb (H := ?H) (p := ?p) ?e ?n ?h; (case e => assumption); (case n => walk_at "ne"); (case h => walk_at "at"))
  | (refine R.sm (H := ?H) ?e ?h; (case e => assumption); (case h => walk_at "at"))
  | (refine Eq.trans (L2.upd_ne ?_) ?_ <;> first | walk_at "ne" | walk_at "at"))
local macro_rules | `(tactic| walk_at "sqt") => `(tactic| first | assumption | (refine L2.SqT.of ?_; walk_at "at"))
local macro_rules | `(tactic| walk_at "ty") => `(tactic| first | exact R.tyN | exact R.tyB | exact R.tyI | exact R.tyS | (refine R.tyT (xs := ?xs) ?h; case h => walk_at "at") | (refine R.tyL (xs := ?xs) ?h; case h => walk_at "at"))
local macro_rules | `(tactic| walk_at "kit") => `(tactic| first | exact R.kit_NoneType_tuple | exact R.kit_NoneType_list | exact R.kit_NoneType_bool | exact R.kit_NoneType_str | exact R.kit_NoneType_int | exact R.kit_bool_tuple | exact R.kit_bool_list | exact R.kit_bool_bool | exact R.kit_bool_str | exact R.kit_bool_int | exact R.kit_int_tuple | exact R.kit_int_list | exact R.kit_int_bool | exact R.kit_int_str | exact R.kit_int_int | exact R.kit_str_tuple | exact R.kit_str_list | exact R.kit_str_bool | exact R.kit_str_str | exact R.kit_str_int | exact R.kit_tuple_tuple | exact R.kit_tuple_list | exact R.kit_tuple_bool | exact R.kit_tuple_str | exact R.kit_tuple_int | exact R.kit_list_tuple | exact R.kit_list_list | exact R.kit_list_bool | exact R.kit_list_str | exact R.kit_list_int)
local macro_rules | `(tactic| walk_at "sz") => `(tactic| first | assumption | (refine Nat.le_trans ?_ (show 1000 ≤ PySem.sizeLine by decide); omega) | decide)
local macro_rules | `(tactic| walk_at "szl") => `(tactic| first | assumption | exact Nat.le_of_lt (L2.small1000 (by omega)) | decide | decide +kernel)
local macro_rules | `(tactic| walk_at "sys") => `(tactic| first | assumption | exact KN.SysAt.same (by assumption) (by assumption))
local macro_rules | `(tactic| walk_at "dk") => `(tactic| first | exact R.rowsS _ _ | exact R.rowsM _ _)
local macro_rules | `(tactic| walk_at "sqa") => `(tactic| first | assumption | exact R.SeqA.same (by assumption) (by assumption) | exact R.SeqA.new (by assumption) (by assumption) | (exact Or.inl (by walk_at "at")) | (exact Or.inr (by walk_at "at")))
local macro_rules | `(tactic| walk_at "ix") => `(tactic| first | rfl | (exact L2.atI_nat (by assumption)) | assumption)
local macro_rules | `(tactic| walk_at "cond") => `(tactic| first
  | exact Or.inl (by decide) | exact Or.inr (by decide) | exact Or.inl ⟨by omega, by omega⟩ | exact Or.inr ⟨by omega, by omega⟩
  | (constructor <;> omega) | (show _ ≠ _; omega) | decide | omega)
local macro_rules | `(tactic| walk_at "r1") => `(tactic| first
  | with_reducible refine R.seq ?_ | with_reducible refine R.asg ?_ | with_reducible refine R.ifs ?_ | with_reducible refine R.ret ?_ | with_reducible refine R.retN ?_ | with_reducible refine R.drop ?_ | with_reducible refine R.next ?_
  | with_reducible refine R.op ?_ | ((with_reducible refine R.var (v := ?v) ?h ?q); case h => rfl) | with_reducible refine R.c ?_ | with_reducible refine R.tst ?_ | with_reducible refine R.tb_ ?_ | with_reducible refine R.ex ?_
  | with_reducible refine R.i0 ?_ | with_reducible refine R.eqI ?_ | with_reducible refine R.neI ?_ | ((with_reducible refine R.ic ?_ ?_); · walk_at "cond") | with_reducible refine R.u0 ?_ | with_reducible refine R.un ?_
  | ((with_reducible refine R.eq ?_ ?_); · rfl) | ((with_reducible refine R.ne ?_ ?_); · rfl)
  | with_reducible refine R.and_ ?_ | with_reducible refine R.or_ ?_ | with_reducible refine R.not_ ?_ | with_reducible refine R.ife ?_ | with_reducible refine R.chain ?_
  | with_reducible refine R.cons ?_ | with_reducible refine R.nil ?_ | with_reducible refine R.call ?_ | with_reducible refine R.cb ?_ | with_reducible refine R.bm ?_
  | with_reducible refine R.gname ?_ | with_reducible refine R.gsub ?_ | with_reducible refine R.gnil ?_ | with_reducible refine R.gcons ?_ | with_reducible refine R.yes ?_
  | with_reducible refine R.int1 ?_ | ((with_reducible refine R.lenL (xs := ?xs) ?h ?q); case h => walk_at "at")
  | ((with_reducible refine R.ixL (xs := ?xs) (v := ?v) ?h ?e ?q); (case h => walk_at "at"); (case e => walk_at "ix"))
  | ((with_reducible refine R.setL (xs := ?xs) (n := ?n) ?h ?e ?q); (case h => walk_at "at"); (case e => rfl))
  | ((with_reducible refine R.append (xs := ?xs) ?h ?e ?q); (case h => walk_at "at"); (case e => walk_at "cond"))
  | with_reducible refine R.is_ ?_ | with_reducible refine R.isnot ?_ | with_reducible refine R.andV ?_ | with_reducible refine R.orV ?_ | with_reducible refine R.notV ?_
  | ((with_reducible refine R.isi (s := ?s) (b := ?b) ?ty ?h ?q); (case ty => walk_at "ty"); (case h => walk_at "kit"))
  | ((with_reducible refine R.addS ?h ?q); (case h => walk_at "sz")) | with_reducible refine R.max2 ?_ | with_reducible refine R.min2 ?_
  | ((with_reducible refine R.lenStr ?h ?q); (case h => walk_at "szl")) | ((with_reducible refine R.ixS (n := ?n) ?h ?e ?q); (case h => walk_at "szl"); (case e => walk_at "ix"))
  | ((with_reducible refine R.tyl (xs := ?xs) ?h ?q); (case h => walk_at "at")) | with_reducible refine R.itlist ?_ | with_reducible refine R.ittup ?_ | with_reducible refine R.m1 ?_ | with_reducible refine R.m1s ?_ | with_reducible refine R.leS ?_ | with_reducible refine R.itstr ?_ | with_reducible refine R.itstrE ?_ | with_reducible refine R.lc ?_ | with_reducible refine R.lc2 ?_ | with_reducible refine R.ckw ?_ | with_reducible refine R.par ?_ | with_reducible refine R.parE ?_ | with_reducible refine R.itrev ?_ | with_reducible refine R.dsetd ?_ | with_reducible refine R.dnotin_ ?_ | with_reducible refine R.for_ ?_ | ((with_reducible refine R.all_ (bs := ?bs) ?h ?q); (case h => walk_at "at"))
  | with_reducible refine R.rng1 ?_ | ((with_reducible refine R.rngE ?h ?q); (case h => (constructor <;> omega)))
  | ((with_reducible refine R.lenT (xs := ?xs) ?h ?q); (case h => walk_at "sqt")) | ((with_reducible refine R.ixT (xs := ?xs) (v := ?v) ?h ?e ?q); (case h => walk_at "sqt"); (case e => walk_at "ix"))
  | ((refine R.itlE (xs := ?xs) ?h ?q); (case h => walk_at "at")) | ((refine R.ittE (xs := ?xs) ?h ?q); (case h => walk_at "at"))
  | ((refine R.gseq (xs := ?xs) ?h ?e ?q); (case h => walk_at "sqa"); (case e => rfl)) | ((refine R.ixA (xs := ?xs) (v := ?v) ?h ?e ?q); (case h => walk_at "sqa"); (case e => walk_at "ix")) | ((refine R.lenA (xs := ?xs) ?h ?q); (case h => walk_at "sqa"))
  | ((with_reducible refine R.gtup (xs := ?xs) ?h ?e ?q); (case h => walk_at "sqt"); (case e => rfl))
  | with_reducible refine R.din_ ?_ | with_reducible refine R.dput_ ?_
  | with_reducible refine R.dget2_ ?_ | ((with_reducible refine R.aug_ (x := ?x) ?h ?q); case h => rfl) | with_reducible refine R.ipI_ ?_
  | with_reducible refine R.rng2 ?_ | ((with_reducible refine R.rngE2 ?h ?q); (case h => (refine ⟨?_, ?_, ?_, ?_⟩ <;> omega)))
  | with_reducible refine R.brk ?_ | with_reducible refine R.intB ?_ | with_reducible refine R.meth_ ?_ | ((refine KN.methS (rs := ?rs) (ms := ?ms) ?h (fun _ _ _ _ => rfl) ?q); case h => walk_at "sys")
  | with_reducible refine R.sl_ ?_ | with_reducible refine R.np_ ?_ | with_reducible refine R.pt_ ?_ | with_reducible refine R.ptE ?_ | with_reducible refine R.dget_ ?_ | with_reducible refine R.revL_ ?_
  | ((refine R.dgetS (kvs := ?kvs) (v := ?v) ?h ?e ?q); (case h => walk_at "at"); (case e => walk_at "dk"))
  | with_reducible refine R.sfld ?_ | with_reducible refine R.fld_ ?_ | with_reducible refine R.dc ?_
  | with_reducible refine R.dget1_ ?_
  | with_reducible refine R.itseq ?_ | with_reducible refine R.itenum ?_
  | with_reducible refine R.itT ?_ | with_reducible refine R.itF ?_ | with_reducible refine R.itNT ?_ | with_reducible refine R.itNF ?_
  | (with_reducible refine R.tup ?_) | (with_reducible refine R.lst ?_))
local macro_rules | `(tactic| walk_at "rd") => `(tactic| (repeat (first | walk_at "r1" | (dsimp only [Int.reduceToNat, List.set_cons_succ, List.set_cons_zero, List.length_cons, List.length_nil, List.nil_append, List.cons_append, List.append_nil]))))
local macro_rules | `(tactic| walk_at "go") => `(tactic| (rw [R.start_eq]; dsimp only [R.startE, List.map_nil]; walk_at "rd"))
namespace KN
open PySem L2 SX R
open C8 (Cal Def fnScope fnBody fnArgs)
theorem def_of {K : PySem.W.Frag} {h : Heap} {mg : Str → Option Value} {x : Str} {st : Stmt} {f : Addr} {od an : Option Addr} {sl : Array (Option Value)} {oc kV dc pm cd ct : Value} (X : K.In h) (G : h.Ns mainGlobals mg) (a : PySem.W.nsIn K mainGlobals x = some (some (.ref f)))
    (l : K.lookup f = some ⟨oc, od, .func (PySem.W.fnOf x x (fnArgs st) (fnBody st) (fnScope st) .none kV dc pm an cd ct), sl⟩) (c : PySem.W.codeIn K cd x = true) (k : PySem.W.keepIn K (.ref f) = true) : Def K mg x st f (PySem.W.fnOf x x (fnArgs st) (fnBody st) (fnScope st) .none kV dc pm an cd ct) :=
  ⟨⟨oc, od, .none, kV, dc, pm, an, cd, ct, sl, rfl, l, c⟩, PySem.W.mg_of X G a, k⟩
theorem calAt_of {P : Program} {w : World} {K : PySem.W.Frag} {mg : Str → Option Value} {base : Heap} {k : Nat} {x : Str} {f : Addr} {sp : Sp} (c : Cal P w K mg base k x sp []) (hm : mg x = some (.ref f)) : C8.CalAt P w K mg base k f sp := by
  obtain ⟨f', fd, ps, ds, q1, q2, q3, q4, q5⟩ := c.ex
  have e := q2.symm.trans hm
  cases e
  cases q5
  exact ⟨fd, ps, q1, q3, q4⟩
theorem all_mk {P : Program} {w : World} {K : PySem.W.Frag} {h : Heap} {mg : Str → Option Value} {fa S CN C : Addr} (X : K.In h) (G : h.Ns mainGlobals mg) (hfa : mg "law" = some (.ref fa))
    {f0 : Addr} {od0 an0 : Option Addr} {sl0 : Array (Option Value)} {oc0 kV0 dc0 pm0 cd0 ct0 : Value}
    {f1 : Addr} {od1 an1 : Option Addr} {sl1 : Array (Option Value)} {oc1 kV1 dc1 pm1 cd1 ct1 : Value}
    {f2 : Addr} {od2 an2 : Option Addr} {sl2 : Array (Option Value)} {oc2 kV2 dc2 pm2 cd2 ct2 : Value}
    {f3 : Addr} {od3 an3 : Option Addr} {sl3 : Array (Option Value)} {oc3 kV3 dc3 pm3 cd3 ct3 : Value}
    {f4 : Addr} {od4 an4 : Option Addr} {sl4 : Array (Option Value)} {oc4 kV4 dc4 pm4 cd4 ct4 : Value}
    {f5 : Addr} {od5 an5 : Option Addr} {sl5 : Array (Option Value)} {oc5 kV5 dc5 pm5 cd5 ct5 : Value}
    {f6 : Addr} {od6 an6 : Option Addr} {sl6 : Array (Option Value)} {oc6 kV6 dc6 pm6 cd6 ct6 : Value}
    {f7 : Addr} {od7 an7 : Option Addr} {sl7 : Array (Option Value)} {oc7 kV7 dc7 pm7 cd7 ct7 : Value}
    {f8 : Addr} {od8 an8 : Option Addr} {sl8 : Array (Option Value)} {oc8 kV8 dc8 pm8 cd8 ct8 : Value}
    {f9 : Addr} {od9 an9 : Option Addr} {sl9 : Array (Option Value)} {oc9 kV9 dc9 pm9 cd9 ct9 : Value}
    {f10 : Addr} {od10 an10 : Option Addr} {sl10 : Array (Option Value)} {oc10 kV10 dc10 pm10 cd10 ct10 : Value}
    {f11 : Addr} {od11 an11 : Option Addr} {sl11 : Array (Option Value)} {oc11 kV11 dc11 pm11 cd11 ct11 : Value}
    {f12 : Addr} {od12 an12 : Option Addr} {sl12 : Array (Option Value)} {oc12 kV12 dc12 pm12 cd12 ct12 : Value}
    {f13 : Addr} {od13 an13 : Option Addr} {sl13 : Array (Option Value)} {oc13 kV13 dc13 pm13 cd13 ct13 : Value}
    {f14 : Addr} {od14 an14 : Option Addr} {sl14 : Array (Option Value)} {oc14 kV14 dc14 pm14 cd14 ct14 : Value}
    {f15 : Addr} {od15 an15 : Option Addr} {sl15 : Array (Option Value)} {oc15 kV15 dc15 pm15 cd15 ct15 : Value}
    {f16 : Addr} {od16 an16 : Option Addr} {sl16 : Array (Option Value)} {oc16 kV16 dc16 pm16 cd16 ct16 : Value}
    {f17 : Addr} {od17 an17 : Option Addr} {sl17 : Array (Option Value)} {oc17 kV17 dc17 pm17 cd17 ct17 : Value}
    {f18 : Addr} {od18 an18 : Option Addr} {sl18 : Array (Option Value)} {oc18 kV18 dc18 pm18 cd18 ct18 : Value}
    {f19 : Addr} {od19 an19 : Option Addr} {sl19 : Array (Option Value)} {oc19 kV19 dc19 pm19 cd19 ct19 : Value}
    {f20 : Addr} {od20 an20 : Option Addr} {sl20 : Array (Option Value)} {oc20 kV20 dc20 pm20 cd20 ct20 : Value}
    {f21 : Addr} {od21 an21 : Option Addr} {sl21 : Array (Option Value)} {oc21 kV21 dc21 pm21 cd21 ct21 : Value}
    {f22 : Addr} {od22 an22 : Option Addr} {sl22 : Array (Option Value)} {oc22 kV22 dc22 pm22 cd22 ct22 : Value}
    {f23 : Addr} {od23 an23 : Option Addr} {sl23 : Array (Option Value)} {oc23 kV23 dc23 pm23 cd23 ct23 : Value}
    {f24 : Addr} {od24 an24 : Option Addr} {sl24 : Array (Option Value)} {oc24 kV24 dc24 pm24 cd24 ct24 : Value}
    {f25 : Addr} {od25 an25 : Option Addr} {sl25 : Array (Option Value)} {oc25 kV25 dc25 pm25 cd25 ct25 : Value}
    {f26 : Addr} {od26 an26 : Option Addr} {sl26 : Array (Option Value)} {oc26 kV26 dc26 pm26 cd26 ct26 : Value}
    {f27 : Addr} {od27 an27 : Option Addr} {sl27 : Array (Option Value)} {oc27 kV27 dc27 pm27 cd27 ct27 : Value}
    {f28 : Addr} {od28 an28 : Option Addr} {sl28 : Array (Option Value)} {oc28 kV28 dc28 pm28 cd28 ct28 : Value}
    {f29 : Addr} {od29 an29 : Option Addr} {sl29 : Array (Option Value)} {oc29 kV29 dc29 pm29 cd29 ct29 : Value}
    {f30 : Addr} {od30 an30 : Option Addr} {sl30 : Array (Option Value)} {oc30 kV30 dc30 pm30 cd30 ct30 : Value}
    {f31 : Addr} {od31 an31 : Option Addr} {sl31 : Array (Option Value)} {oc31 kV31 dc31 pm31 cd31 ct31 : Value}
    {f32 : Addr} {od32 an32 : Option Addr} {sl32 : Array (Option Value)} {oc32 kV32 dc32 pm32 cd32 ct32 : Value}
    {f33 : Addr} {od33 an33 : Option Addr} {sl33 : Array (Option Value)} {oc33 kV33 dc33 pm33 cd33 ct33 : Value}
    {f34 : Addr} {od34 an34 : Option Addr} {sl34 : Array (Option Value)} {oc34 kV34 dc34 pm34 cd34 ct34 : Value}
    {f35 : Addr} {od35 an35 : Option Addr} {sl35 : Array (Option Value)} {oc35 kV35 dc35 pm35 cd35 ct35 : Value}
    {f36 : Addr} {od36 an36 : Option Addr} {sl36 : Array (Option Value)} {oc36 kV36 dc36 pm36 cd36 ct36 : Value}
    {f37 : Addr} {od37 an37 : Option Addr} {sl37 : Array (Option Value)} {oc37 kV37 dc37 pm37 cd37 ct37 : Value}
    {f38 : Addr} {od38 an38 : Option Addr} {sl38 : Array (Option Value)} {oc38 kV38 dc38 pm38 cd38 ct38 : Value}
    {f39 : Addr} {od39 an39 : Option Addr} {sl39 : Array (Option Value)} {oc39 kV39 dc39 pm39 cd39 ct39 : Value}
    {f40 : Addr} {od40 an40 : Option Addr} {sl40 : Array (Option Value)} {oc40 kV40 dc40 pm40 cd40 ct40 : Value}
    {f41 : Addr} {od41 an41 : Option Addr} {sl41 : Array (Option Value)} {oc41 kV41 dc41 pm41 cd41 ct41 : Value}
    {f42 : Addr} {od42 an42 : Option Addr} {sl42 : Array (Option Value)} {oc42 kV42 dc42 pm42 cd42 ct42 : Value}
    {f43 : Addr} {od43 an43 : Option Addr} {sl43 : Array (Option Value)} {oc43 kV43 dc43 pm43 cd43 ct43 : Value}
    {t_MOST_SIMPLE : Tok}
    {t_MOST_MULTIPLIERS : Tok}
    {t_LONGEST_WORD : Tok}
    {t_GREATEST : Tok}
    {xnm xq xN xbs xbm xsn xsub xab xcol xdd xk0 xk1 xk2 xk3 xk5}
    (a0 : PySem.W.nsIn K mainGlobals "_law_pool" = some (some (.ref f0))) (l0 : K.lookup f0 = some ⟨oc0, od0, .func (PySem.W.fnOf "_law_pool" "_law_pool" (fnArgs sPool) (fnBody sPool) (fnScope sPool) .none kV0 dc0 pm0 an0 cd0 ct0), sl0⟩) (c0 : PySem.W.codeIn K cd0 "_law_pool" = true) (k0 : PySem.W.keepIn K (.ref f0) = true)
    (a1 : PySem.W.nsIn K mainGlobals "_law_take" = some (some (.ref f1))) (l1 : K.lookup f1 = some ⟨oc1, od1, .func (PySem.W.fnOf "_law_take" "_law_take" (fnArgs sTake) (fnBody sTake) (fnScope sTake) .none kV1 dc1 pm1 an1 cd1 ct1), sl1⟩) (c1 : PySem.W.codeIn K cd1 "_law_take" = true) (k1 : PySem.W.keepIn K (.ref f1) = true)
    (a2 : PySem.W.nsIn K mainGlobals "_law_is_integer" = some (some (.ref f2))) (l2 : K.lookup f2 = some ⟨oc2, od2, .func (PySem.W.fnOf "_law_is_integer" "_law_is_integer" (fnArgs sIsint) (fnBody sIsint) (fnScope sIsint) .none kV2 dc2 pm2 an2 cd2 ct2), sl2⟩) (c2 : PySem.W.codeIn K cd2 "_law_is_integer" = true) (k2 : PySem.W.keepIn K (.ref f2) = true)
    (a3 : PySem.W.nsIn K mainGlobals "_law_same" = some (some (.ref f3))) (l3 : K.lookup f3 = some ⟨oc3, od3, .func (PySem.W.fnOf "_law_same" "_law_same" (fnArgs sSame) (fnBody sSame) (fnScope sSame) .none kV3 dc3 pm3 an3 cd3 ct3), sl3⟩) (c3 : PySem.W.codeIn K cd3 "_law_same" = true) (k3 : PySem.W.keepIn K (.ref f3) = true)
    (a4 : PySem.W.nsIn K mainGlobals "is_word" = some (some (.ref f4))) (l4 : K.lookup f4 = some ⟨oc4, od4, .func (PySem.W.fnOf "is_word" "is_word" (fnArgs sIsword) (fnBody sIsword) (fnScope sIsword) .none kV4 dc4 pm4 an4 cd4 ct4), sl4⟩) (c4 : PySem.W.codeIn K cd4 "is_word" = true) (k4 : PySem.W.keepIn K (.ref f4) = true)
    (a5 : PySem.W.nsIn K mainGlobals "simple_fault" = some (some (.ref f5))) (l5 : K.lookup f5 = some ⟨oc5, od5, .func (PySem.W.fnOf "simple_fault" "simple_fault" (fnArgs sSfault) (fnBody sSfault) (fnScope sSfault) .none kV5 dc5 pm5 an5 cd5 ct5), sl5⟩) (c5 : PySem.W.codeIn K cd5 "simple_fault" = true) (k5 : PySem.W.keepIn K (.ref f5) = true)
    (a6 : PySem.W.nsIn K mainGlobals "multiplier_fault" = some (some (.ref f6))) (l6 : K.lookup f6 = some ⟨oc6, od6, .func (PySem.W.fnOf "multiplier_fault" "multiplier_fault" (fnArgs sMfault) (fnBody sMfault) (fnScope sMfault) .none kV6 dc6 pm6 an6 cd6 ct6), sl6⟩) (c6 : PySem.W.codeIn K cd6 "multiplier_fault" = true) (k6 : PySem.W.keepIn K (.ref f6) = true)
    (a7 : PySem.W.nsIn K mainGlobals "check_rows" = some (some (.ref f7))) (l7 : K.lookup f7 = some ⟨oc7, od7, .func (PySem.W.fnOf "check_rows" "check_rows" (fnArgs sCkrows) (fnBody sCkrows) (fnScope sCkrows) .none kV7 dc7 pm7 an7 cd7 ct7), sl7⟩) (c7 : PySem.W.codeIn K cd7 "check_rows" = true) (k7 : PySem.W.keepIn K (.ref f7) = true)
    (a8 : PySem.W.nsIn K mainGlobals "check_twice" = some (some (.ref f8))) (l8 : K.lookup f8 = some ⟨oc8, od8, .func (PySem.W.fnOf "check_twice" "check_twice" (fnArgs sCktwice) (fnBody sCktwice) (fnScope sCktwice) .none kV8 dc8 pm8 an8 cd8 ct8), sl8⟩) (c8 : PySem.W.codeIn K cd8 "check_twice" = true) (k8 : PySem.W.keepIn K (.ref f8) = true)
    (a9 : PySem.W.nsIn K mainGlobals "check_endless" = some (some (.ref f9))) (l9 : K.lookup f9 = some ⟨oc9, od9, .func (PySem.W.fnOf "check_endless" "check_endless" (fnArgs sCkendl) (fnBody sCkendl) (fnScope sCkendl) .none kV9 dc9 pm9 an9 cd9 ct9), sl9⟩) (c9 : PySem.W.codeIn K cd9 "check_endless" = true) (k9 : PySem.W.keepIn K (.ref f9) = true)
    (a10 : PySem.W.nsIn K mainGlobals "_law_word" = some (some (.ref f10))) (l10 : K.lookup f10 = some ⟨oc10, od10, .func (PySem.W.fnOf "_law_word" "_law_word" (fnArgs sWord) (fnBody sWord) (fnScope sWord) .none kV10 dc10 pm10 an10 cd10 ct10), sl10⟩) (c10 : PySem.W.codeIn K cd10 "_law_word" = true) (k10 : PySem.W.keepIn K (.ref f10) = true)
    (a11 : PySem.W.nsIn K mainGlobals "_law_drawn" = some (some (.ref f11))) (l11 : K.lookup f11 = some ⟨oc11, od11, .func (PySem.W.fnOf "_law_drawn" "_law_drawn" (fnArgs sDrawn) (fnBody sDrawn) (fnScope sDrawn) .none kV11 dc11 pm11 an11 cd11 ct11), sl11⟩) (c11 : PySem.W.codeIn K cd11 "_law_drawn" = true) (k11 : PySem.W.keepIn K (.ref f11) = true)
    (a12 : PySem.W.nsIn K mainGlobals "_law_regular" = some (some (.ref f12))) (l12 : K.lookup f12 = some ⟨oc12, od12, .func (PySem.W.fnOf "_law_regular" "_law_regular" (fnArgs sRegular) (fnBody sRegular) (fnScope sRegular) .none kV12 dc12 pm12 an12 cd12 ct12), sl12⟩) (c12 : PySem.W.codeIn K cd12 "_law_regular" = true) (k12 : PySem.W.keepIn K (.ref f12) = true)
    (a13 : PySem.W.nsIn K mainGlobals "_law_nearly" = some (some (.ref f13))) (l13 : K.lookup f13 = some ⟨oc13, od13, .func (PySem.W.fnOf "_law_nearly" "_law_nearly" (fnArgs sNearly) (fnBody sNearly) (fnScope sNearly) .none kV13 dc13 pm13 an13 cd13 ct13), sl13⟩) (c13 : PySem.W.codeIn K cd13 "_law_nearly" = true) (k13 : PySem.W.keepIn K (.ref f13) = true)
    (a14 : PySem.W.nsIn K mainGlobals "_law_english" = some (some (.ref f14))) (l14 : K.lookup f14 = some ⟨oc14, od14, .func (PySem.W.fnOf "_law_english" "_law_english" (fnArgs sEnglish) (fnBody sEnglish) (fnScope sEnglish) .none kV14 dc14 pm14 an14 cd14 ct14), sl14⟩) (c14 : PySem.W.codeIn K cd14 "_law_english" = true) (k14 : PySem.W.keepIn K (.ref f14) = true)
    (a15 : PySem.W.nsIn K mainGlobals "_law_rows" = some (some (.ref f15))) (l15 : K.lookup f15 = some ⟨oc15, od15, .func (PySem.W.fnOf "_law_rows" "_law_rows" (fnArgs sRows) (fnBody sRows) (fnScope sRows) .none kV15 dc15 pm15 an15 cd15 ct15), sl15⟩) (c15 : PySem.W.codeIn K cd15 "_law_rows" = true) (k15 : PySem.W.keepIn K (.ref f15) = true)
    (a16 : PySem.W.nsIn K mainGlobals "_law_shaped" = some (some (.ref f16))) (l16 : K.lookup f16 = some ⟨oc16, od16, .func (PySem.W.fnOf "_law_shaped" "_law_shaped" (fnArgs sShaped) (fnBody sShaped) (fnScope sShaped) .none kV16 dc16 pm16 an16 cd16 ct16), sl16⟩) (c16 : PySem.W.codeIn K cd16 "_law_shaped" = true) (k16 : PySem.W.keepIn K (.ref f16) = true)
    (a17 : PySem.W.nsIn K mainGlobals "_law_made" = some (some (.ref f17))) (l17 : K.lookup f17 = some ⟨oc17, od17, .func (PySem.W.fnOf "_law_made" "_law_made" (fnArgs sMade) (fnBody sMade) (fnScope sMade) .none kV17 dc17 pm17 an17 cd17 ct17), sl17⟩) (c17 : PySem.W.codeIn K cd17 "_law_made" = true) (k17 : PySem.W.keepIn K (.ref f17) = true)
    (a18 : PySem.W.nsIn K mainGlobals "_law_bounded" = some (some (.ref f18))) (l18 : K.lookup f18 = some ⟨oc18, od18, .func (PySem.W.fnOf "_law_bounded" "_law_bounded" (fnArgs sBounded) (fnBody sBounded) (fnScope sBounded) .none kV18 dc18 pm18 an18 cd18 ct18), sl18⟩) (c18 : PySem.W.codeIn K cd18 "_law_bounded" = true) (k18 : PySem.W.keepIn K (.ref f18) = true)
    (a19 : PySem.W.nsIn K mainGlobals "_law_endless" = some (some (.ref f19))) (l19 : K.lookup f19 = some ⟨oc19, od19, .func (PySem.W.fnOf "_law_endless" "_law_endless" (fnArgs sEndless) (fnBody sEndless) (fnScope sEndless) .none kV19 dc19 pm19 an19 cd19 ct19), sl19⟩) (c19 : PySem.W.codeIn K cd19 "_law_endless" = true) (k19 : PySem.W.keepIn K (.ref f19) = true)
    (a20 : PySem.W.nsIn K mainGlobals "_law_edge" = some (some (.ref f20))) (l20 : K.lookup f20 = some ⟨oc20, od20, .func (PySem.W.fnOf "_law_edge" "_law_edge" (fnArgs sEdge) (fnBody sEdge) (fnScope sEdge) .none kV20 dc20 pm20 an20 cd20 ct20), sl20⟩) (c20 : PySem.W.codeIn K cd20 "_law_edge" = true) (k20 : PySem.W.keepIn K (.ref f20) = true)
    (a21 : PySem.W.nsIn K mainGlobals "_law_small" = some (some (.ref f21))) (l21 : K.lookup f21 = some ⟨oc21, od21, .func (PySem.W.fnOf "_law_small" "_law_small" (fnArgs sSmall) (fnBody sSmall) (fnScope sSmall) .none kV21 dc21 pm21 an21 cd21 ct21), sl21⟩) (c21 : PySem.W.codeIn K cd21 "_law_small" = true) (k21 : PySem.W.keepIn K (.ref f21) = true)
    (a22 : PySem.W.nsIn K mainGlobals "rows_up_to" = some (some (.ref f22))) (l22 : K.lookup f22 = some ⟨oc22, od22, .func (PySem.W.fnOf "rows_up_to" "rows_up_to" (fnArgs sRup) (fnBody sRup) (fnScope sRup) .none kV22 dc22 pm22 an22 cd22 ct22), sl22⟩) (c22 : PySem.W.codeIn K cd22 "rows_up_to" = true) (k22 : PySem.W.keepIn K (.ref f22) = true)
    (a23 : PySem.W.nsIn K mainGlobals "first_with" = some (some (.ref f23))) (l23 : K.lookup f23 = some ⟨oc23, od23, .func (PySem.W.fnOf "first_with" "first_with" (fnArgs sFwith) (fnBody sFwith) (fnScope sFwith) .none kV23 dc23 pm23 an23 cd23 ct23), sl23⟩) (c23 : PySem.W.codeIn K cd23 "first_with" = true) (k23 : PySem.W.keepIn K (.ref f23) = true)
    (a24 : PySem.W.nsIn K mainGlobals "said_up_to" = some (some (.ref f24))) (l24 : K.lookup f24 = some ⟨oc24, od24, .func (PySem.W.fnOf "said_up_to" "said_up_to" (fnArgs sSut) (fnBody sSut) (fnScope sSut) .none kV24 dc24 pm24 an24 cd24 ct24), sl24⟩) (c24 : PySem.W.codeIn K cd24 "said_up_to" = true) (k24 : PySem.W.keepIn K (.ref f24) = true)
    (a25 : PySem.W.nsIn K mainGlobals "_law_count" = some (some (.ref f25))) (l25 : K.lookup f25 = some ⟨oc25, od25, .func (PySem.W.fnOf "_law_count" "_law_count" (fnArgs sLcount) (fnBody sLcount) (fnScope sLcount) .none kV25 dc25 pm25 an25 cd25 ct25), sl25⟩) (c25 : PySem.W.codeIn K cd25 "_law_count" = true) (k25 : PySem.W.keepIn K (.ref f25) = true)
    (a26 : PySem.W.nsIn K mainGlobals "_law_up_to" = some (some (.ref f26))) (l26 : K.lookup f26 = some ⟨oc26, od26, .func (PySem.W.fnOf "_law_up_to" "_law_up_to" (fnArgs sLup) (fnBody sLup) (fnScope sLup) .none kV26 dc26 pm26 an26 cd26 ct26), sl26⟩) (c26 : PySem.W.codeIn K cd26 "_law_up_to" = true) (k26 : PySem.W.keepIn K (.ref f26) = true)
    (a27 : PySem.W.nsIn K mainGlobals "sayable_count" = some (some (.ref f27))) (l27 : K.lookup f27 = some ⟨oc27, od27, .func (PySem.W.fnOf "sayable_count" "sayable_count" (fnArgs sSc) (fnBody sSc) (fnScope sSc) .none kV27 dc27 pm27 an27 cd27 ct27), sl27⟩) (c27 : PySem.W.codeIn K cd27 "sayable_count" = true) (k27 : PySem.W.keepIn K (.ref f27) = true)
    (a28 : PySem.W.nsIn K mainGlobals "_law_great" = some (some (.ref f28))) (l28 : K.lookup f28 = some ⟨oc28, od28, .func (PySem.W.fnOf "_law_great" "_law_great" (fnArgs sLgr) (fnBody sLgr) (fnScope sLgr) .none kV28 dc28 pm28 an28 cd28 ct28), sl28⟩) (c28 : PySem.W.codeIn K cd28 "_law_great" = true) (k28 : PySem.W.keepIn K (.ref f28) = true)
    (a29 : PySem.W.findIn K (.ref S) "words" = some (some (.ref f29))) (i29 : PySem.W.isFn K (.ref f29) = true) (l29 : K.lookup f29 = some ⟨oc29, od29, .func (PySem.W.fnOf "words" "System.words" (fnArgs sSysW) (fnBody sSysW) (fnScope sSysW) .none kV29 dc29 pm29 an29 cd29 ct29), sl29⟩) (c29 : PySem.W.codeIn K cd29 "System.words" = true) (k29 : PySem.W.keepIn K (.ref f29) = true)
    (a30 : PySem.W.findIn K (.ref S) "multiplier" = some (some (.ref f30))) (i30 : PySem.W.isFn K (.ref f30) = true) (l30 : K.lookup f30 = some ⟨oc30, od30, .func (PySem.W.fnOf "multiplier" "System.multiplier" (fnArgs sSysM) (fnBody sSysM) (fnScope sSysM) .none kV30 dc30 pm30 an30 cd30 ct30), sl30⟩) (c30 : PySem.W.codeIn K cd30 "System.multiplier" = true) (k30 : PySem.W.keepIn K (.ref f30) = true)
    (a31 : PySem.W.findIn K (.ref S) "endless" = some (some (.ref f31))) (i31 : PySem.W.isFn K (.ref f31) = true) (l31 : K.lookup f31 = some ⟨oc31, od31, .func (PySem.W.fnOf "endless" "System.endless" (fnArgs sSysE) (fnBody sSysE) (fnScope sSysE) .none kV31 dc31 pm31 an31 cd31 ct31), sl31⟩) (c31 : PySem.W.codeIn K cd31 "System.endless" = true) (k31 : PySem.W.keepIn K (.ref f31) = true)
    (a32 : PySem.W.findIn K (.ref S) "bounded_maximum" = some (some (.ref f32))) (i32 : PySem.W.isFn K (.ref f32) = true) (l32 : K.lookup f32 = some ⟨oc32, od32, .func (PySem.W.fnOf "bounded_maximum" "System.bounded_maximum" (fnArgs sSysB) (fnBody sSysB) (fnScope sSysB) .none kV32 dc32 pm32 an32 cd32 ct32), sl32⟩) (c32 : PySem.W.codeIn K cd32 "System.bounded_maximum" = true) (k32 : PySem.W.keepIn K (.ref f32) = true)
    (a33 : PySem.W.findIn K (.ref CN) "_small_sums" = some (some (.ref f33))) (i33 : PySem.W.isFn K (.ref f33) = true) (l33 : K.lookup f33 = some ⟨oc33, od33, .func (PySem.W.fnOf "_small_sums" "Census._small_sums" (fnArgs sCenS) (fnBody sCenS) (fnScope sCenS) .none kV33 dc33 pm33 an33 cd33 ct33), sl33⟩) (c33 : PySem.W.codeIn K cd33 "Census._small_sums" = true) (k33 : PySem.W.keepIn K (.ref f33) = true)
    (a34 : PySem.W.findIn K (.ref CN) "_small" = some (some (.ref f34))) (i34 : PySem.W.isFn K (.ref f34) = true) (l34 : K.lookup f34 = some ⟨oc34, od34, .func (PySem.W.fnOf "_small" "Census._small" (fnArgs sCenM) (fnBody sCenM) (fnScope sCenM) .none kV34 dc34 pm34 an34 cd34 ct34), sl34⟩) (c34 : PySem.W.codeIn K cd34 "Census._small" = true) (k34 : PySem.W.keepIn K (.ref f34) = true)
    (a35 : PySem.W.findIn K (.ref CN) "_ahead" = some (some (.ref f35))) (i35 : PySem.W.isFn K (.ref f35) = true) (l35 : K.lookup f35 = some ⟨oc35, od35, .func (PySem.W.fnOf "_ahead" "Census._ahead" (fnArgs sCenA) (fnBody sCenA) (fnScope sCenA) .none kV35 dc35 pm35 an35 cd35 ct35), sl35⟩) (c35 : PySem.W.codeIn K cd35 "Census._ahead" = true) (k35 : PySem.W.keepIn K (.ref f35) = true)
    (a36 : PySem.W.findIn K (.ref CN) "_block" = some (some (.ref f36))) (i36 : PySem.W.isFn K (.ref f36) = true) (l36 : K.lookup f36 = some ⟨oc36, od36, .func (PySem.W.fnOf "_block" "Census._block" (fnArgs sCenB) (fnBody sCenB) (fnScope sCenB) .none kV36 dc36 pm36 an36 cd36 ct36), sl36⟩) (c36 : PySem.W.codeIn K cd36 "Census._block" = true) (k36 : PySem.W.keepIn K (.ref f36) = true)
    (a37 : PySem.W.findIn K (.ref CN) "_endless_up_to" = some (some (.ref f37))) (i37 : PySem.W.isFn K (.ref f37) = true) (l37 : K.lookup f37 = some ⟨oc37, od37, .func (PySem.W.fnOf "_endless_up_to" "Census._endless_up_to" (fnArgs sCenE) (fnBody sCenE) (fnScope sCenE) .none kV37 dc37 pm37 an37 cd37 ct37), sl37⟩) (c37 : PySem.W.codeIn K cd37 "Census._endless_up_to" = true) (k37 : PySem.W.keepIn K (.ref f37) = true)
    (a38 : PySem.W.findIn K (.ref CN) "_behind" = some (some (.ref f38))) (i38 : PySem.W.isFn K (.ref f38) = true) (l38 : K.lookup f38 = some ⟨oc38, od38, .func (PySem.W.fnOf "_behind" "Census._behind" (fnArgs sCenH) (fnBody sCenH) (fnScope sCenH) .none kV38 dc38 pm38 an38 cd38 ct38), sl38⟩) (c38 : PySem.W.codeIn K cd38 "Census._behind" = true) (k38 : PySem.W.keepIn K (.ref f38) = true)
    (a39 : PySem.W.findIn K (.ref CN) "up_to" = some (some (.ref f39))) (i39 : PySem.W.isFn K (.ref f39) = true) (l39 : K.lookup f39 = some ⟨oc39, od39, .func (PySem.W.fnOf "up_to" "Census.up_to" (fnArgs sCenU) (fnBody sCenU) (fnScope sCenU) .none kV39 dc39 pm39 an39 cd39 ct39), sl39⟩) (c39 : PySem.W.codeIn K cd39 "Census.up_to" = true) (k39 : PySem.W.keepIn K (.ref f39) = true)
    (a40 : PySem.W.findIn K (.ref S) "__init__" = some (some (.ref f40))) (i40 : PySem.W.isFn K (.ref f40) = true) (l40 : K.lookup f40 = some ⟨oc40, od40, .func (PySem.W.fnOf "__init__" "System.__init__" (defArgs sSysI) (defBody sSysI) (defScope sSysI) .none kV40 dc40 pm40 an40 cd40 ct40), sl40⟩) (c40 : PySem.W.codeIn K cd40 "System.__init__" = true) (k40 : PySem.W.keepIn K (.ref f40) = true)
    (a41 : PySem.W.findIn K (.ref CN) "__init__" = some (some (.ref f41))) (i41 : PySem.W.isFn K (.ref f41) = true) (l41 : K.lookup f41 = some ⟨oc41, od41, .func (PySem.W.fnOf "__init__" "Census.__init__" (defArgs sCenI) (defBody sCenI) (defScope sCenI) .none kV41 dc41 pm41 an41 cd41 ct41), sl41⟩) (c41 : PySem.W.codeIn K cd41 "Census.__init__" = true) (k41 : PySem.W.keepIn K (.ref f41) = true)
    (a42 : PySem.W.nsIn K mainGlobals "law" = some (some (.ref f42))) (l42 : K.lookup f42 = some ⟨oc42, od42, .func (PySem.W.fnOf "law" "law" (defArgs sLaw) (defBody sLaw) (defScope sLaw) .none kV42 dc42 pm42 an42 cd42 ct42), sl42⟩) (c42 : PySem.W.codeIn K cd42 "law" = true) (k42 : PySem.W.keepIn K (.ref f42) = true)
    (a43 : PySem.W.findIn K (.ref C) "__init__" = some (some (.ref f43))) (i43 : PySem.W.typeIn K (.ref f43) = some (.type "function")) (l43 : K.lookup f43 = some ⟨oc43, od43, .func (PySem.W.fnOf "__init__" "BadSystem.__init__" (defArgs sBad) (defBody sBad) (defScope sBad) .none kV43 dc43 pm43 an43 cd43 ct43), sl43⟩) (c43 : PySem.W.codeIn K cd43 "BadSystem.__init__" = true) (k43 : PySem.W.keepIn K (.ref f43) = true)
    (gC : PySem.W.nsIn K mainGlobals "BadSystem" = some (some (.ref C)))
    (z_int : PySem.W.nsIn K mainGlobals "int" = some none)
    (z_len : PySem.W.nsIn K mainGlobals "len" = some none)
    (z_range : PySem.W.nsIn K mainGlobals "range" = some none)
    (z_isinstance : PySem.W.nsIn K mainGlobals "isinstance" = some none)
    (z_bool : PySem.W.nsIn K mainGlobals "bool" = some none)
    (z_str : PySem.W.nsIn K mainGlobals "str" = some none)
    (z_tuple : PySem.W.nsIn K mainGlobals "tuple" = some none)
    (z_list : PySem.W.nsIn K mainGlobals "list" = some none)
    (z_all : PySem.W.nsIn K mainGlobals "all" = some none)
    (z_max : PySem.W.nsIn K mainGlobals "max" = some none)
    (z_min : PySem.W.nsIn K mainGlobals "min" = some none)
    (z_enumerate : PySem.W.nsIn K mainGlobals "enumerate" = some none)
    (z_any : PySem.W.nsIn K mainGlobals "any" = some none)
    (z_sum : PySem.W.nsIn K mainGlobals "sum" = some none)
    (z_divmod : PySem.W.nsIn K mainGlobals "divmod" = some none)
    (n_MOST_SIMPLE : PySem.W.nsIn K mainGlobals "MOST_SIMPLE" = some (some (.int 24 t_MOST_SIMPLE)))
    (n_MOST_MULTIPLIERS : PySem.W.nsIn K mainGlobals "MOST_MULTIPLIERS" = some (some (.int 6 t_MOST_MULTIPLIERS)))
    (n_LONGEST_WORD : PySem.W.nsIn K mainGlobals "LONGEST_WORD" = some (some (.int 8 t_LONGEST_WORD)))
    (n_GREATEST : PySem.W.nsIn K mainGlobals "GREATEST" = some (some (.int 100000 t_GREATEST)))
    (g_System : PySem.W.nsIn K mainGlobals "System" = some (some (.ref S)))
    (pg_System : PySem.W.plainGet K S Str.empty = true)
    (hd_System : PySem.W.hasDictIn K S = true)
    (po_System : PySem.W.plainOver K S = true)
    (sa_System : PySem.W.findIn K (.ref S) "__setattr__" = some (some (.builtin "object.__setattr__")))
    (mk_System : PySem.W.makesIn K S = true)
    (kc_System : PySem.W.keepIn K (.ref S) = true)
    (o_System_simple : PySem.W.findIn K (.ref S) "simple" = some none)
    (o_System_multipliers : PySem.W.findIn K (.ref S) "multipliers" = some none)
    (o_System__values : PySem.W.findIn K (.ref S) "_values" = some none)
    (o_System__rows : PySem.W.findIn K (.ref S) "_rows" = some none)
    (g_Census : PySem.W.nsIn K mainGlobals "Census" = some (some (.ref CN)))
    (pg_Census : PySem.W.plainGet K CN Str.empty = true)
    (hd_Census : PySem.W.hasDictIn K CN = true)
    (po_Census : PySem.W.plainOver K CN = true)
    (sa_Census : PySem.W.findIn K (.ref CN) "__setattr__" = some (some (.builtin "object.__setattr__")))
    (mk_Census : PySem.W.makesIn K CN = true)
    (kc_Census : PySem.W.keepIn K (.ref CN) = true)
    (o_Census__row : PySem.W.findIn K (.ref CN) "_row" = some none)
    (o_Census__own : PySem.W.findIn K (.ref CN) "_own" = some none)
    (o_Census__maximum : PySem.W.findIn K (.ref CN) "_maximum" = some none)
    (o_Census__found : PySem.W.findIn K (.ref CN) "_found" = some none)
    (o_Census__sums : PySem.W.findIn K (.ref CN) "_sums" = some none)
    (p_part : PySem.W.findIn K (.ref C) "part" = some none)
    (p_number : PySem.W.findIn K (.ref C) "number" = some none)
    (p_reason : PySem.W.findIn K (.ref C) "reason" = some none)
    (xl : K.lookup C = some (excClassObj xnm xq C xN xbs xbm true xsn xsub xab xcol xdd xk0 xk1 xk2 xk3 xk5 "ValueError.__new__"))
    (xr : PySem.HandSPX.refsVE xbm = true)
    (xsa : PySem.W.findIn K (.ref C) "__setattr__" = some (some (.builtin "object.__setattr__")))
    (xex : PySem.W.subIn K (.ref C) (.type "BaseException") = some true)
    (xty : PySem.W.typeIn K (.ref C) = some (.type "type"))
    (xkc : PySem.W.keepIn K (.ref C) = true)
    (zrev : PySem.W.nsIn K mainGlobals "reversed" = some none)
    : ∃ fd : FuncData, (∀ (s : Shared) (v : Value), BindsTo s fd ⟨[v], []⟩ [("script", v)]) ∧ ∀ base : Heap, K.In base → base.Ns mainGlobals mg → FnOk P w K mg base CX0 203 fa fd ["script"] (spTop K) := by
  have e := hfa.symm.trans (PySem.W.mg_of X G a42)
  cases e
  have Z : Zs mg := ⟨PySem.W.mg_none_of X G z_int, PySem.W.mg_none_of X G z_len, PySem.W.mg_none_of X G z_range, PySem.W.mg_none_of X G z_isinstance, PySem.W.mg_none_of X G z_bool, PySem.W.mg_none_of X G z_str, PySem.W.mg_none_of X G z_tuple, PySem.W.mg_none_of X G z_list, PySem.W.mg_none_of X G z_all, PySem.W.mg_none_of X G z_max, PySem.W.mg_none_of X G z_min, PySem.W.mg_none_of X G z_enumerate, PySem.W.mg_none_of X G z_any, PySem.W.mg_none_of X G z_sum, PySem.W.mg_none_of X G z_divmod⟩
  have CC : Cs mg := ⟨⟨_, PySem.W.mg_of X G n_MOST_SIMPLE, ⟨_, rfl⟩⟩, ⟨_, PySem.W.mg_of X G n_MOST_MULTIPLIERS, ⟨_, rfl⟩⟩, ⟨_, PySem.W.mg_of X G n_LONGEST_WORD, ⟨_, rfl⟩⟩, ⟨_, PySem.W.mg_of X G n_GREATEST, ⟨_, rfl⟩⟩⟩
  have F0 := def_of (st := sPool) X G a0 l0 c0 k0
  have b0 := F0.fn.binds rfl (ps := ["script"]) fun _ _ _ _ _ _ us hl => match us, hl with | [_], _ => rfl
  have F1 := def_of (st := sTake) X G a1 l1 c1 k1
  have b1 := F1.fn.binds rfl (ps := ["pool", "many"]) fun _ _ _ _ _ _ us hl => match us, hl with | [_, _], _ => rfl
  have F2 := def_of (st := sIsint) X G a2 l2 c2 k2
  have b2 := F2.fn.binds rfl (ps := ["actual"]) fun _ _ _ _ _ _ us hl => match us, hl with | [_], _ => rfl
  have F3 := def_of (st := sSame) X G a3 l3 c3 k3
  have b3 := F3.fn.binds rfl (ps := ["actual", "due"]) fun _ _ _ _ _ _ us hl => match us, hl with | [_, _], _ => rfl
  have F4 := def_of (st := sIsword) X G a4 l4 c4 k4
  have b4 := F4.fn.binds rfl (ps := ["text"]) fun _ _ _ _ _ _ us hl => match us, hl with | [_], _ => rfl
  have F5 := def_of (st := sSfault) X G a5 l5 c5 k5
  have b5 := F5.fn.binds rfl (ps := ["row"]) fun _ _ _ _ _ _ us hl => match us, hl with | [_], _ => rfl
  have F6 := def_of (st := sMfault) X G a6 l6 c6 k6
  have b6 := F6.fn.binds rfl (ps := ["row"]) fun _ _ _ _ _ _ us hl => match us, hl with | [_], _ => rfl
  have F7 := def_of (st := sCkrows) X G a7 l7 c7 k7
  have b7 := F7.fn.binds rfl (ps := ["part", "rows", "most", "fault"]) fun _ _ _ _ _ _ us hl => match us, hl with | [_, _, _, _], _ => rfl
  have F8 := def_of (st := sCktwice) X G a8 l8 c8 k8
  have b8 := F8.fn.binds rfl (ps := ["simple", "multipliers"]) fun _ _ _ _ _ _ us hl => match us, hl with | [_, _], _ => rfl
  have F9 := def_of (st := sCkendl) X G a9 l9 c9 k9
  have b9 := F9.fn.binds rfl (ps := ["multipliers"]) fun _ _ _ _ _ _ us hl => match us, hl with | [_], _ => rfl
  have F10 := def_of (st := sWord) X G a10 l10 c10 k10
  have b10 := F10.fn.binds rfl (ps := ["pool", "number"]) fun _ _ _ _ _ _ us hl => match us, hl with | [_, _], _ => rfl
  have F11 := def_of (st := sDrawn) X G a11 l11 c11 k11
  have b11 := F11.fn.binds rfl (ps := ["pool"]) fun _ _ _ _ _ _ us hl => match us, hl with | [_], _ => rfl
  have F12 := def_of (st := sRegular) X G a12 l12 c12 k12
  have b12 := F12.fn.binds rfl (ps := ["pool"]) fun _ _ _ _ _ _ us hl => match us, hl with | [_], _ => rfl
  have F13 := def_of (st := sNearly) X G a13 l13 c13 k13
  have b13 := F13.fn.binds rfl (ps := ["pool"]) fun _ _ _ _ _ _ us hl => match us, hl with | [_], _ => rfl
  have F14 := def_of (st := sEnglish) X G a14 l14 c14 k14
  have b14 := F14.fn.binds rfl (ps := ["pool"]) fun _ _ _ _ _ _ us hl => match us, hl with | [_], _ => rfl
  have F15 := def_of (st := sRows) X G a15 l15 c15 k15
  have b15 := F15.fn.binds rfl (ps := ["pool"]) fun _ _ _ _ _ _ us hl => match us, hl with | [_], _ => rfl
  have F16 := def_of (st := sShaped) X G a16 l16 c16 k16
  have b16 := F16.fn.binds rfl (ps := ["pool", "rows"]) fun _ _ _ _ _ _ us hl => match us, hl with | [_, _], _ => rfl
  have F17 := def_of (st := sMade) X G a17 l17 c17 k17
  have b17 := F17.fn.binds rfl (ps := ["pool", "rows"]) fun _ _ _ _ _ _ us hl => match us, hl with | [_, _], _ => rfl
  have F18 := def_of (st := sBounded) X G a18 l18 c18 k18
  have b18 := F18.fn.binds rfl (ps := ["rows"]) fun _ _ _ _ _ _ us hl => match us, hl with | [_], _ => rfl
  have F19 := def_of (st := sEndless) X G a19 l19 c19 k19
  have b19 := F19.fn.binds rfl (ps := ["rows"]) fun _ _ _ _ _ _ us hl => match us, hl with | [_], _ => rfl
  have F20 := def_of (st := sEdge) X G a20 l20 c20 k20
  have b20 := F20.fn.binds rfl (ps := ["rows"]) fun _ _ _ _ _ _ us hl => match us, hl with | [_], _ => rfl
  have F21 := def_of (st := sSmall) X G a21 l21 c21 k21
  have b21 := F21.fn.binds rfl (ps := ["pool"]) fun _ _ _ _ _ _ us hl => match us, hl with | [_], _ => rfl
  have F22 := def_of (st := sRup) X G a22 l22 c22 k22
  have b22 := F22.fn.binds rfl (ps := ["system", "last"]) fun _ _ _ _ _ _ us hl => match us, hl with | [_, _], _ => rfl
  have F23 := def_of (st := sFwith) X G a23 l23 c23 k23
  have b23 := F23.fn.binds rfl (ps := ["rows", "found", "number"]) fun _ _ _ _ _ _ us hl => match us, hl with | [_, _, _], _ => rfl
  have F24 := def_of (st := sSut) X G a24 l24 c24 k24
  have b24 := F24.fn.binds rfl (ps := ["system", "last", "counted"]) fun _ _ _ _ _ _ us hl => match us, hl with | [_, _, _], _ => rfl
  have F25 := def_of (st := sLcount) X G a25 l25 c25 k25
  have b25 := F25.fn.binds rfl (ps := ["rows", "number", "known"]) fun _ _ _ _ _ _ us hl => match us, hl with | [_, _, _], _ => rfl
  have F26 := def_of (st := sLup) X G a26 l26 c26 k26
  have b26 := F26.fn.binds rfl (ps := ["rows", "number", "known", "sums"]) fun _ _ _ _ _ _ us hl => match us, hl with | [_, _, _, _], _ => rfl
  have F27 := def_of (st := sSc) X G a27 l27 c27 k27
  have b27 := F27.fn.binds rfl (ps := ["system", "start", "stop"]) fun _ _ _ _ _ _ us hl => match us, hl with | [_, _, _], _ => rfl
  have F28 := def_of (st := sLgr) X G a28 l28 c28 k28
  have b28 := F28.fn.binds rfl (ps := ["pool"]) fun _ _ _ _ _ _ us hl => match us, hl with | [_], _ => rfl
  have F29 : C8.Fun K "words" "System.words" sSysW f29 _ := ⟨oc29, od29, .none, kV29, dc29, pm29, an29, cd29, ct29, sl29, rfl, l29, c29⟩
  have b29 := F29.binds rfl (ps := ["self"]) fun _ _ _ _ _ _ us hl => match us, hl with | [_], _ => rfl
  have F30 : C8.Fun K "multiplier" "System.multiplier" sSysM f30 _ := ⟨oc30, od30, .none, kV30, dc30, pm30, an30, cd30, ct30, sl30, rfl, l30, c30⟩
  have b30 := F30.binds rfl (ps := ["self", "word"]) fun _ _ _ _ _ _ us hl => match us, hl with | [_, _], _ => rfl
  have F31 : C8.Fun K "endless" "System.endless" sSysE f31 _ := ⟨oc31, od31, .none, kV31, dc31, pm31, an31, cd31, ct31, sl31, rfl, l31, c31⟩
  have b31 := F31.binds rfl (ps := ["self"]) fun _ _ _ _ _ _ us hl => match us, hl with | [_], _ => rfl
  have F32 : C8.Fun K "bounded_maximum" "System.bounded_maximum" sSysB f32 _ := ⟨oc32, od32, .none, kV32, dc32, pm32, an32, cd32, ct32, sl32, rfl, l32, c32⟩
  have b32 := F32.binds rfl (ps := ["self"]) fun _ _ _ _ _ _ us hl => match us, hl with | [_], _ => rfl
  have F33 : C8.Fun K "_small_sums" "Census._small_sums" sCenS f33 _ := ⟨oc33, od33, .none, kV33, dc33, pm33, an33, cd33, ct33, sl33, rfl, l33, c33⟩
  have b33 := F33.binds rfl (ps := ["self", "number"]) fun _ _ _ _ _ _ us hl => match us, hl with | [_, _], _ => rfl
  have F34 : C8.Fun K "_small" "Census._small" sCenM f34 _ := ⟨oc34, od34, .none, kV34, dc34, pm34, an34, cd34, ct34, sl34, rfl, l34, c34⟩
  have b34 := F34.binds rfl (ps := ["self", "number"]) fun _ _ _ _ _ _ us hl => match us, hl with | [_, _], _ => rfl
  have F35 : C8.Fun K "_ahead" "Census._ahead" sCenA f35 _ := ⟨oc35, od35, .none, kV35, dc35, pm35, an35, cd35, ct35, sl35, rfl, l35, c35⟩
  have b35 := F35.binds rfl (ps := ["self", "count", "words"]) fun _ _ _ _ _ _ us hl => match us, hl with | [_, _, _], _ => rfl
  have F36 : C8.Fun K "_block" "Census._block" sCenB f36 _ := ⟨oc36, od36, .none, kV36, dc36, pm36, an36, cd36, ct36, sl36, rfl, l36, c36⟩
  have b36 := F36.binds rfl (ps := ["self", "counts", "total", "rest"]) fun _ _ _ _ _ _ us hl => match us, hl with | [_, _, _, _], _ => rfl
  have F37 : C8.Fun K "_endless_up_to" "Census._endless_up_to" sCenE f37 _ := ⟨oc37, od37, .none, kV37, dc37, pm37, an37, cd37, ct37, sl37, rfl, l37, c37⟩
  have b37 := F37.binds rfl (ps := ["self", "count", "sums", "words", "rest"]) fun _ _ _ _ _ _ us hl => match us, hl with | [_, _, _, _, _], _ => rfl
  have F38 : C8.Fun K "_behind" "Census._behind" sCenH f38 _ := ⟨oc38, od38, .none, kV38, dc38, pm38, an38, cd38, ct38, sl38, rfl, l38, c38⟩
  have b38 := F38.binds rfl (ps := ["self", "count", "sums", "words", "rest"]) fun _ _ _ _ _ _ us hl => match us, hl with | [_, _, _, _, _], _ => rfl
  have F39 : C8.Fun K "up_to" "Census.up_to" sCenU f39 _ := ⟨oc39, od39, .none, kV39, dc39, pm39, an39, cd39, ct39, sl39, rfl, l39, c39⟩
  have b39 := F39.binds rfl (ps := ["self", "number"]) fun _ _ _ _ _ _ us hl => match us, hl with | [_, _], _ => rfl
  have F40 := fun_mk (st := sSysI) l40 c40 k40
  have b40 := F40.binds (ps := ["self", "simple", "multipliers"]) fun _ _ _ _ _ _ us hl => match us, hl with | [_, _, _], _ => rfl
  have F41 := fun_mk (st := sCenI) l41 c41 k41
  have b41 := F41.binds (ps := ["self", "system", "last", "counted"]) fun _ _ _ _ _ _ us hl => match us, hl with | [_, _, _, _], _ => rfl
  have F43 := fun_mk (st := sBad) l43 c43 k43
  have b43 := F43.binds (ps := ["self", "part", "number", "reason"]) fun _ _ _ _ _ _ us hl => match us, hl with | [_, _, _, _], _ => rfl
  have TB : BadK K mg C f43 := ⟨⟨⟨_, _, _, _, _, _, _, _, _, _, _, _, _, _, _, xl, xr⟩, xsa, xex, xty, xkc⟩, a43, i43, PySem.W.mg_of X G gC, p_part, p_number, p_reason⟩
  have TS : SysK K S := ⟨⟨pg_System, hd_System, po_System, sa_System⟩, o_System_simple, o_System_multipliers, o_System__values, o_System__rows⟩
  have MS : Mk K S f40 := ⟨mk_System, a40, i40, kc_System⟩
  have TCN : CenK K CN := ⟨⟨pg_Census, hd_Census, po_Census, sa_Census⟩, o_Census__row, o_Census__own, o_Census__maximum, o_Census__found, o_Census__sums⟩
  have MCN : Mk K CN f41 := ⟨mk_Census, a41, i41, kc_Census⟩
  refine ⟨PySem.W.fnOf "law" "law" (defArgs sLaw) (defBody sLaw) (defScope sLaw) .none kV42 dc42 pm42 an42 cd42 ct42, fun s v => .of_eq rfl, fun base _ _ => ?_⟩
  have q_word : Cal P w K mg base 1 "is_word" spIsword [] := c_is_word Z CC F4 b4
  have q_take : Cal P w K mg base 2 "_law_take" spTake [] := c_take Z F1 b1
  have q_pool : Cal P w K mg base 1 "_law_pool" (spPool K) [] := c_pool Z F0 b0
  have q_int : Cal P w K mg base 1 "_law_is_integer" spIsint [] := c_isint Z F2 b2
  have q_same : Cal P w K mg base 6 "_law_same" (spSame 4) [] := c_same Z q_int F3 b3 4
  have cS := calAt_of (c_simple_fault Z CC q_word F5 b5 : Cal P w K mg base 2 "simple_fault" spSf []) F5.mgf
  have cM := calAt_of (c_multiplier_fault Z CC q_word F6 b6 : Cal P w K mg base 2 "multiplier_fault" spMf []) F6.mgf
  have GB : FnOk P w K mg base CX0 1 _ _ ["self", "part", "number", "reason"] (spBadI C) := ok_bad TB F43
  have q_ckr := c_check_rows Z TB GB b43 cS cM F7 b7
  have q_ckt : CalX P w K mg base 3 "check_twice" (spTwice C) := c_check_twice Z TB GB b43 F8 b8
  have q_cke : CalX P w K mg base 3 "check_endless" (spEndl C) := c_check_endless Z TB GB b43 F9 b9
  have GS := ok_sysI Z CC TS ⟨_, F5.mgf, rfl⟩ ⟨_, F6.mgf, rfl⟩ q_ckr q_ckt q_cke F40
  have q_lword := c_word Z q_take F10 b10
  have q_drawn := c_drawn Z q_take q_lword F11 b11
  have q_reg := c_regular Z q_take q_lword F12 b12
  have q_near := c_nearly Z q_take q_reg F13 b13
  have q_eng := c_english Z q_take F14 b14
  have q_rows := c_rows Z q_take q_drawn q_near q_reg q_eng F15 b15
  have q_shaped := c_shaped Z q_take F16 b16
  have q_made := c_made Z (PySem.W.mg_of X G g_System) MS GS b40 q_shaped F17 b17
  have q_bounded := c_bounded (P := P) (w := w) (base := base) Z F18 b18
  have q_lend := c_endless (P := P) (w := w) (base := base) F19 b19
  have q_edge := c_edge Z q_bounded q_lend F20 b20
  have q_small := c_smallB Z q_rows q_reg q_bounded F21 b21
  have m_el := m_endless (P := P) (w := w) (mg := mg) (base := base) TS ⟨a31, i31, k31⟩ F31 b31
  have m_bm := m_bounded_maximum (P := P) (w := w) (mg := mg) (base := base) Z TS ⟨a32, i32, k32⟩ F32 b32
  have q_rup := c_rows_up_to (P := P) (w := w) (base := base) Z TS F22 b22
  have q_fw := c_first_with (P := P) (w := w) (base := base) Z F23 b23
  have q_sut := c_said_up_to Z TS q_rup q_fw F24 b24
  have GN : FnOk P w K mg base (L2.CX P w) 3 _ _ ["self", "system", "last", "counted"] (spCenI S CN) := ok_cenI Z TCN m_el m_bm q_sut F41
  have n_ss := m_small_sums (P := P) (w := w) (mg := mg) (base := base) Z TCN ⟨a33, i33, k33⟩ F33 b33
  have n_sm := m_small_ (P := P) (w := w) (mg := mg) (base := base) Z TCN ⟨a34, i34, k34⟩ F34 b34
  have n_ah := m_ahead (P := P) (w := w) (mg := mg) (base := base) Z TCN ⟨a35, i35, k35⟩ F35 b35
  have n_bl := m_block Z TCN n_ss ⟨a36, i36, k36⟩ F36 b36
  have n_eu := m_endless_up Z TCN n_sm n_ah n_bl ⟨a37, i37, k37⟩ F37 b37
  have n_bh := m_behind Z TCN n_ss n_sm n_ah n_eu ⟨a38, i38, k38⟩ F38 b38
  have n_up := m_up_to Z (PySem.W.mg_none_of X G zrev) TCN n_ss n_sm n_bh ⟨a39, i39, k39⟩ F39 b39
  have q_sc := c_sayable_count TCN (PySem.W.mg_of X G g_Census) MCN GN b41 n_up F27 b27
  have q_great := c_lgreat Z q_take F28 b28
  have q_count : Cal P w K mg base 101 "_law_count" (spCountG 100) [] := c_lcountG Z F25 b25 100
  have q_up : Cal P w K mg base 202 "_law_up_to" (spUp 100) [] := c_lup Z q_lend q_count F26 b26 100
  exact ok_law Z q_pool q_take q_small q_made q_edge q_count q_same q_great q_up q_sc (fun_mk (st := sLaw) l42 c42 k42)
end KN
end
set_option Elab.async false
set_option maxRecDepth 100000
namespace KN
open PySem L2
theorem walk01 {l : PySem.W.OpenLaw} {q : Program} {loose : List Str} {XP : (Str → Option Value) → Heap → Prop}
    {YP : World → Heap → Prop} {d : DefRec} {K : Params → PySem.W.Frag}
    (hn : l.most = some 63) (hdf : d.params.defaults = []) (hY : ∀ (v : World) (g : Heap), YP v g → (K v.params).In g)
    (F : ∀ (v : World) (mg : Str → Option Value) (fa : Addr) (g : Heap), (K v.params).In g → g.Ns mainGlobals mg → mg d.name = some (.ref fa) → ∃ fd : FuncData,
      (∀ (s : Shared) (u : Value), BindsTo s fd ⟨[u], []⟩ [("script", u)]) ∧ ∀ base : Heap, (K v.params).In base → base.Ns mainGlobals mg → FnOk l.prog v (K v.params) mg base CX0 203 fa fd ["script"] (spTop (K v.params))) :
    PySem.W.WalkO q loose XP YP l.row.toRowW d [] (fun f vs => PySem.call f vs) :=
  L2.walk_of (n := 63) (k := 203) (x := "script") (CX := fun _ => CX0) (sp := fun v => spTop (K v.params)) hn (by decide) hdf ⟨rfl, by decide, by decide⟩ hY F
    (fun _ _ a ns hl _ hS => ⟨a, ns, rfl, hS, hl, fun _ => rfl⟩) fun _ _ _ _ _ z => z
end KN
open PySem PySem.W PyProof.Rows in
set_option maxRecDepth 100000 in
set_option maxHeartbeats 0 in
theorem PySem.Challenge.cw_sayonce_k22_how_many_are_said_holds : PySem.Challenge.rw_sayonce_k22_how_many_are_said.Holds := by
  w_on; o_law; k_head; (case hw => w_witness2)
  k_fill
  refine KN.walk01 (l := PySem.Challenge.rw_sayonce_k22_how_many_are_said) rfl rfl (fun w h Y => PySem.W.kIn_of Y) ?F
  case F =>
    intro w mg fa h KX G hmg
    refine' KN.all_mk KX G hmg ?a0 ?l0 ?c0 ?k0 ?a1 ?l1 ?c1 ?k1 ?a2 ?l2 ?c2 ?k2 ?a3 ?l3 ?c3 ?k3 ?a4 ?l4 ?c4 ?k4 ?a5 ?l5 ?c5 ?k5 ?a6 ?l6 ?c6 ?k6 ?a7 ?l7 ?c7 ?k7 ?a8 ?l8 ?c8 ?k8 ?a9 ?l9 ?c9 ?k9 ?a10 ?l10 ?c10 ?k10 ?a11 ?l11 ?c11 ?k11 ?a12 ?l12 ?c12 ?k12 ?a13 ?l13 ?c13 ?k13 ?a14 ?l14 ?c14 ?k14 ?a15 ?l15 ?c15 ?k15 ?a16 ?l16 ?c16 ?k16 ?a17 ?l17 ?c17 ?k17 ?a18 ?l18 ?c18 ?k18 ?a19 ?l19 ?c19 ?k19 ?a20 ?l20 ?c20 ?k20 ?a21 ?l21 ?c21 ?k21 ?a22 ?l22 ?c22 ?k22 ?a23 ?l23 ?c23 ?k23 ?a24 ?l24 ?c24 ?k24 ?a25 ?l25 ?c25 ?k25 ?a26 ?l26 ?c26 ?k26 ?a27 ?l27 ?c27 ?k27 ?a28 ?l28 ?c28 ?k28 ?a29 ?i29 ?l29 ?c29 ?k29 ?a30 ?i30 ?l30 ?c30 ?k30 ?a31 ?i31 ?l31 ?c31 ?k31 ?a32 ?i32 ?l32 ?c32 ?k32 ?a33 ?i33 ?l33 ?c33 ?k33 ?a34 ?i34 ?l34 ?c34 ?k34 ?a35 ?i35 ?l35 ?c35 ?k35 ?a36 ?i36 ?l36 ?c36 ?k36 ?a37 ?i37 ?l37 ?c37 ?k37 ?a38 ?i38 ?l38 ?c38 ?k38 ?a39 ?i39 ?l39 ?c39 ?k39 ?a40 ?i40 ?l40 ?c40 ?k40 ?a41 ?i41 ?l41 ?c41 ?k41 ?a42 ?l42 ?c42 ?k42 ?a43 ?i43 ?l43 ?c43 ?k43 ?gC ?z_int ?z_len ?z_range ?z_isinstance ?z_bool ?z_str ?z_tuple ?z_list ?z_all ?z_max ?z_min ?z_enumerate ?z_any ?z_sum ?z_divmod ?n_MOST_SIMPLE ?n_MOST_MULTIPLIERS ?n_LONGEST_WORD ?n_GREATEST ?g_System ?pg_System ?hd_System ?po_System ?sa_System ?mk_System ?kc_System ?o_System_simple ?o_System_multipliers ?o_System__values ?o_System__rows ?g_Census ?pg_Census ?hd_Census ?po_Census ?sa_Census ?mk_Census ?kc_Census ?o_Census__row ?o_Census__own ?o_Census__maximum ?o_Census__found ?o_Census__sums ?p_part ?p_number ?p_reason ?xl ?xr ?xsa ?xex ?xty ?xkc ?zrev
    (case gC => k_is)
    (case g_System => k_is)
    (case g_Census => k_is)
    (case a0 => k_is)
    (case l0 => k_is)
    (case c0 => k_is)
    (case k0 => k_is)
    (case a1 => k_is)
    (case l1 => k_is)
    (case c1 => k_is)
    (case k1 => k_is)
    (case a2 => k_is)
    (case l2 => k_is)
    (case c2 => k_is)
    (case k2 => k_is)
    (case a3 => k_is)
    (case l3 => k_is)
    (case c3 => k_is)
    (case k3 => k_is)
    (case a4 => k_is)
    (case l4 => k_is)
    (case c4 => k_is)
    (case k4 => k_is)
    (case a5 => k_is)
    (case l5 => k_is)
    (case c5 => k_is)
    (case k5 => k_is)
    (case a6 => k_is)
    (case l6 => k_is)
    (case c6 => k_is)
    (case k6 => k_is)
    (case a7 => k_is)
    (case l7 => k_is)
    (case c7 => k_is)
    (case k7 => k_is)
    (case a8 => k_is)
    (case l8 => k_is)
    (case c8 => k_is)
    (case k8 => k_is)
    (case a9 => k_is)
    (case l9 => k_is)
    (case c9 => k_is)
    (case k9 => k_is)
    (case a10 => k_is)
    (case l10 => k_is)
    (case c10 => k_is)
    (case k10 => k_is)
    (case a11 => k_is)
    (case l11 => k_is)
    (case c11 => k_is)
    (case k11 => k_is)
    (case a12 => k_is)
    (case l12 => k_is)
    (case c12 => k_is)
    (case k12 => k_is)
    (case a13 => k_is)
    (case l13 => k_is)
    (case c13 => k_is)
    (case k13 => k_is)
    (case a14 => k_is)
    (case l14 => k_is)
    (case c14 => k_is)
    (case k14 => k_is)
    (case a15 => k_is)
    (case l15 => k_is)
    (case c15 => k_is)
    (case k15 => k_is)
    (case a16 => k_is)
    (case l16 => k_is)
    (case c16 => k_is)
    (case k16 => k_is)
    (case a17 => k_is)
    (case l17 => k_is)
    (case c17 => k_is)
    (case k17 => k_is)
    (case a18 => k_is)
    (case l18 => k_is)
    (case c18 => k_is)
    (case k18 => k_is)
    (case a19 => k_is)
    (case l19 => k_is)
    (case c19 => k_is)
    (case k19 => k_is)
    (case a20 => k_is)
    (case l20 => k_is)
    (case c20 => k_is)
    (case k20 => k_is)
    (case a21 => k_is)
    (case l21 => k_is)
    (case c21 => k_is)
    (case k21 => k_is)
    (case a22 => k_is)
    (case l22 => k_is)
    (case c22 => k_is)
    (case k22 => k_is)
    (case a23 => k_is)
    (case l23 => k_is)
    (case c23 => k_is)
    (case k23 => k_is)
    (case a24 => k_is)
    (case l24 => k_is)
    (case c24 => k_is)
    (case k24 => k_is)
    (case a25 => k_is)
    (case l25 => k_is)
    (case c25 => k_is)
    (case k25 => k_is)
    (case a26 => k_is)
    (case l26 => k_is)
    (case c26 => k_is)
    (case k26 => k_is)
    (case a27 => k_is)
    (case l27 => k_is)
    (case c27 => k_is)
    (case k27 => k_is)
    (case a28 => k_is)
    (case l28 => k_is)
    (case c28 => k_is)
    (case k28 => k_is)
    (case a29 => k_is)
    (case i29 => k_is)
    (case l29 => k_is)
    (case c29 => k_is)
    (case k29 => k_is)
    (case a30 => k_is)
    (case i30 => k_is)
    (case l30 => k_is)
    (case c30 => k_is)
    (case k30 => k_is)
    (case a31 => k_is)
    (case i31 => k_is)
    (case l31 => k_is)
    (case c31 => k_is)
    (case k31 => k_is)
    (case a32 => k_is)
    (case i32 => k_is)
    (case l32 => k_is)
    (case c32 => k_is)
    (case k32 => k_is)
    (case a33 => k_is)
    (case i33 => k_is)
    (case l33 => k_is)
    (case c33 => k_is)
    (case k33 => k_is)
    (case a34 => k_is)
    (case i34 => k_is)
    (case l34 => k_is)
    (case c34 => k_is)
    (case k34 => k_is)
    (case a35 => k_is)
    (case i35 => k_is)
    (case l35 => k_is)
    (case c35 => k_is)
    (case k35 => k_is)
    (case a36 => k_is)
    (case i36 => k_is)
    (case l36 => k_is)
    (case c36 => k_is)
    (case k36 => k_is)
    (case a37 => k_is)
    (case i37 => k_is)
    (case l37 => k_is)
    (case c37 => k_is)
    (case k37 => k_is)
    (case a38 => k_is)
    (case i38 => k_is)
    (case l38 => k_is)
    (case c38 => k_is)
    (case k38 => k_is)
    (case a39 => k_is)
    (case i39 => k_is)
    (case l39 => k_is)
    (case c39 => k_is)
    (case k39 => k_is)
    (case a40 => k_is)
    (case i40 => k_is)
    (case l40 => k_is)
    (case c40 => k_is)
    (case k40 => k_is)
    (case a41 => k_is)
    (case i41 => k_is)
    (case l41 => k_is)
    (case c41 => k_is)
    (case k41 => k_is)
    (case a42 => k_is)
    (case l42 => k_is)
    (case c42 => k_is)
    (case k42 => k_is)
    (case a43 => k_is)
    (case i43 => k_is)
    (case l43 => k_is)
    (case c43 => k_is)
    (case k43 => k_is)
    (case z_int => k_is)
    (case z_len => k_is)
    (case z_range => k_is)
    (case z_isinstance => k_is)
    (case z_bool => k_is)
    (case z_str => k_is)
    (case z_tuple => k_is)
    (case z_list => k_is)
    (case z_all => k_is)
    (case z_max => k_is)
    (case z_min => k_is)
    (case z_enumerate => k_is)
    (case z_any => k_is)
    (case z_sum => k_is)
    (case z_divmod => k_is)
    (case n_MOST_SIMPLE => k_is)
    (case n_MOST_MULTIPLIERS => k_is)
    (case n_LONGEST_WORD => k_is)
    (case n_GREATEST => k_is)
    (case pg_System => k_is)
    (case hd_System => k_is)
    (case po_System => k_is)
    (case sa_System => k_is)
    (case mk_System => k_is)
    (case kc_System => k_is)
    (case o_System_simple => k_is)
    (case o_System_multipliers => k_is)
    (case o_System__values => k_is)
    (case o_System__rows => k_is)
    (case pg_Census => k_is)
    (case hd_Census => k_is)
    (case po_Census => k_is)
    (case sa_Census => k_is)
    (case mk_Census => k_is)
    (case kc_Census => k_is)
    (case o_Census__row => k_is)
    (case o_Census__own => k_is)
    (case o_Census__maximum => k_is)
    (case o_Census__found => k_is)
    (case o_Census__sums => k_is)
    (case p_part => k_is)
    (case p_number => k_is)
    (case p_reason => k_is)
    (case xl => k_is)
    (case xr => first | rfl | decide +kernel)
    (case xsa => k_is)
    (case xex => k_is)
    (case xty => k_is)
    (case xkc => k_is)
    (case zrev => k_is)
